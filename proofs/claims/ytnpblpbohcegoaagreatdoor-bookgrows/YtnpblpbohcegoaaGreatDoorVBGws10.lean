import Derived.Test.YtnpblpbohcegoaaGreatDoorVBGws8
set_option linter.unusedVariables false
set_option linter.unusedSimpArgs false
set_option maxHeartbeats 4000000
set_option maxRecDepth 100000
namespace Go.Proofs.YtnpblpbohcegoaaGreatDoor
section
open Go.RowKit
section
variable {P:Program} {ops:Array Oper} {Q:Exit→Act→World→Prop} {md:Region.Mode} {S:World→Prop}
structure EntersIf (P:Program) (ops:Array Oper) (S:World→Prop) (o:Oper) (f:FuncId) (args:Array Value) (a:Act):Prop where
 want:Region.wanted o (yielded ops a.tmps)=true
 run:∀ w,S w→(execOp a.eval o).run P w = .ok (.enter f args) w
def Gives (P:Program) (S:World→Prop) (f:FuncId) (args:Array Value) (v:Value):Prop:=∀ w,S w→Calls P f args w fun e w'=>e = .returned v∧w'=w
theorem EntersIf.now {o:Oper} {f:FuncId} {args:Array Value} {a:Act} {v:Value} {i:Nat} (h:EntersIf P ops S o f args a) (hg:Gives P S f args v) (hi:ops[i]?=some o) {K:Act→World→Prop} {w:World} (hS:S w) (hk:K (a.put o.dst v) w):wpOp P ops Q i K a w:=by
 unfold wpOp;simp only [hi,h.want,if_true];left;unfold Oper.wp;rw [h.run w hS,Oper.upon_enter];refine (hg w hS).mono fun e w' he=>?_;obtain ⟨rfl,rfl⟩:=he;exact hk
theorem EntersIf.apart {o p:Oper} {f:FuncId} {args:Array Value} {v:Value} {j:Nat} (hj:ops[j]?=some p) (hap:o.apart ops p=true) (hso:∀ cs b,o.op ≠ .select cs b) (hsp:∀ cs b,p.op ≠ .select cs b)
  (hQ:∀ c a w,Q (.panic c) (a.put o.dst v) w→Q (.panic c) a w) {K:Act→World→Prop} {a:Act} {w:World} (he:EntersIf P ops S o f args a) (h:wpOp P ops Q j K (a.put o.dst v) w) :
  wpOp P ops Q j (fun a' w'=>EntersIf P ops S o f args a'∧K (a'.put o.dst v) w') a w:=by
 obtain ⟨n1,n2,n3⟩:=Oper.apart_spec hap;have stay:∀ b:Act,EntersIf P ops S o f args b→∀ u,EntersIf P ops S o f args (b.put p.dst u):=fun b hb u=>⟨by rw [wanted_put o b p.dst u n3];exact hb.want,fun w hw=>by rw [execOp_put o hso b p.dst u n3];exact hb.run w hw⟩;have both:∀ (b:Act) (u:Value) (w':World),EntersIf P ops S o f args b→K ((b.put o.dst v).put p.dst u) w'→EntersIf P ops S o f args (b.put p.dst u)∧K ((b.put p.dst u).put o.dst v) w':=fun b u w' hb hk=>⟨stay b hb u,by rw [← Act.put_comm b v u n2];exact hk⟩;unfold wpOp at h ⊢;simp only [hj] at h ⊢;rw [wanted_put p a o.dst v n1] at h;by_cases hw:Region.wanted p (yielded ops a.tmps)=true
 ·rw [if_pos hw] at h ⊢;rcases h with h | ⟨h,hl⟩
  ·left;unfold Oper.wp at h ⊢;rw [execOp_put p hsp a o.dst v n1] at h;cases hr:(execOp a.eval p).run P w with
   | halt x w'=>
    rw [hr] at h;cases x <;> simp only [Oper.upon] at h ⊢
    exact hQ _ _ _ h
   | ok n w'=>
    rw [hr] at h;cases n with
    | value u=>exact both a u w' he h
    | skip=>exact both a undef w' he h
    | defer d=>
     simp only [Oper.upon] at h ⊢;rw [Act.put_defers] at h;exact both _ _ _ ⟨he.want,he.run⟩ h
    | enter g xs=>
     simp only [Oper.upon] at h ⊢;refine Calls.mono h fun e w'' hx=>?_;cases e with
     | returned u=>exact both a u w'' he hx
     | panicked c=>exact hQ _ _ _ hx
     | outgrown=>exact hx
    | row r xs=>
     simp only [Oper.upon] at h ⊢;exact Rows.mono h fun u w'' hx=>both a u w'' he hx
    | _=>exact False.elim h
  ·right;unfold Oper.asks at h ⊢;rw [execOp_put p hsp a o.dst v n1] at h;exact ⟨h,hl⟩
 ·rw [if_neg hw] at h ⊢;exact both a undef w he h
theorem call_first {i:Nat} {o:Oper} {f:FuncId} {args:Array Value} {v:Value} (hi:ops[i]?=some o) (hsel:∀ (j:Nat) (o:Oper) cs b,ops[j]?=some o→o.op ≠ .select cs b)
  (hQ:∀ c a w,Q (.panic c) (a.put o.dst v) w→Q (.panic c) a w) (hg:Gives P S f args v) (fuel:Nat):∀ (listed:Array Bool) (a:Act) (w:World),
   (∀ j p,ops[j]?=some p→j≠i→listed.getD j true=false→(∀ e∈p.after,Region.binds md e=true→e.on≠i)→o.apart ops p=true) →
   i∈Region.ready md ops listed→EntersIf P ops S o f args a→S w →
   wpAnyH P md ops Q S fuel (listed.setIfInBounds i true) (a.put o.dst v) w→wpAnyH P md ops Q S (fuel+1) listed a w:=by
 induction fuel with
 | zero=>
  intro listed a w _ hr he hS H;refine ⟨fun h=>absurd hr (by rw [h];exact List.not_mem_nil),fun j hj=>?_⟩;by_cases e:j=i
  ·rw [e];exact he.now hg hi hS ⟨hS,H⟩
  ·have:=ready_mono hj e;rw [H.1] at this;exact absurd this List.not_mem_nil
 | succ fuel ih=>
  intro listed a w hfree hr he hS H;refine ⟨fun h=>absurd hr (by rw [h];exact List.not_mem_nil),fun j hj=>?_⟩;by_cases e:j=i
  ·rw [e];exact he.now hg hi hS ⟨hS,H⟩
  ·obtain ⟨hun,p,hp,hall⟩:=mem_ready.1 hj
   have hno:∀ x∈p.after,Region.binds md x=true→x.on≠i:=fun x hx hb hxi=>by
    have h1:=hall x hx hb;have h0:=(mem_ready.1 hr).1;rw [hxi] at h1;by_cases hlt:i<listed.size
    ·simp [hlt] at h0 h1;rw [h0] at h1;cases h1
    ·simp [hlt] at h1
   have h2:=EntersIf.apart hp (hfree j p hp e hun hno) (fun cs b=>hsel i o cs b hi) (fun cs b=>hsel j p cs b hp) hQ he (H.2 j (ready_mono hj e));refine wpOp_mono (fun a' w' h3=>⟨h3.2.1,ih (listed.setIfInBounds j true) a' w' (fun k q hq hki hku hkn=>hfree k q hq hki ?_ hkn) (ready_mono hr (Ne.symm e)) h3.1 h3.2.1 ?_⟩) h2
   ·by_cases hjk:j=k
    ·rw [← hjk];exact hun
    ·rw [getD_set_ne true hjk] at hku;exact hku
   ·rw [Array.setIfInBounds_comm _ _ e];exact h3.2.2
theorem call_at {fuel:Nat} {listed:Array Bool} {a:Act} {w:World} (i d:Nat) (v:Value) (o:Oper) (hi:ops[i]?=some o) (hd:o.dst=some d)
  (hs:Region.noSelect ops=true) (hf:Region.free md ops listed i=true) (hr:(Region.ready md ops listed).contains i=true)
  (hQ:∀ c a w,Q (.panic c) (a.put o.dst v) w→Q (.panic c) a w) (f:FuncId) (args:Array Value) (he:EntersIf P ops S o f args a) (hg:Gives P S f args v) (hS:S w)
  (h:wpAnyH P md ops Q S fuel (listed.setIfInBounds i true) (a.put (some d) v) w):wpAnyH P md ops Q S (fuel+1) listed a w:=
 call_first hi (Region.noSelect_spec hs) hQ hg fuel listed a w (Region.free_spec hi hf) (by simpa using hr) he hS (by rw [hd];exact h)
end
end
namespace acc
open tar (Du du0 Right MostOf cost Top)
open deb (sumD recK ageAll)
open Go.RowKit
theorem tright_wf {t:Tm} (h:TRight t):wf4 t:=by
 obtain ⟨_,⟨a1,a2⟩,⟨b1,b2⟩,⟨c1,c2⟩,d1,d2⟩:=h;exact ⟨tar.wf_mid a1 (by omega),tar.wf_mid b1 (by omega),tar.wf_mid c1 (by omega),tar.wf_mid d1 (by omega)⟩
theorem rec_bd {te db:Int} (h0:0≤te) (h1:te≤100000000) (h2:0≤db) (h3:db≤10000):0≤te*db / 10000∧te*db / 10000≤te:=by
 have a:=Int.mul_nonneg h0 h2;have b:te*db≤te*10000:=Int.mul_le_mul_of_nonneg_left h3 h0;omega
theorem most_cost {l:List Du} {x m u:Int} (h:Right l) (hx:0≤x) (hu:MostOf l x m u) (h1:1≤u):0<cost l x (x+u)∧cost l x (x+u)≤m∧x+u≤10000000∧u≤2097151:=by
 have h2:=hu.1.2;have h3:=tar.cost_bd h x (x+u) hx (by omega) (by unfold Top at h2;omega);exact ⟨by omega,hu.2.1,by unfold Top at h2;omega,by unfold Top at h2;omega⟩
theorem mays_sum {l:List Du} (h:deb.Mays l):0≤sumD l∧sumD l≤8000000000:=by
 have h1:=deb.sumD_pos (l:=l) (deb.mem_fits h.2);have h2:=h.1;exact ⟨h1.1,by have:=h1.2;omega⟩
end acc
namespace cell
open Go.RowKit
theorem may_yes (n:Int) (w:World) (h1:1≤n) (h2:n≤2048) :
  Calls Tryz.prog 46 #[zI n] w fun e w'=>e = .returned (.bool true)∧w'=w:=by
 go_enter Tryz.func46,Tryz.ntmps46;go_wp2;go_ret;exact ⟨rfl,rfl⟩
end cell
namespace acc
open tar (Du du0 Came RowD Ld PairT)
open Go.RowKit
structure Chg (w W:World) (g:Nat):Prop where
 os:W.os=w.os
 tape:W.tape=w.tape
 output:W.output=w.output
 size:w.heap.size≤W.heap.size
 oth:∀ k,k<w.heap.size→k≠g→W.heap[k]?=w.heap[k]?
theorem Chg.refl (w:World) (g:Nat):Chg w w g:=⟨rfl,rfl,rfl,Nat.le_refl _,fun _ _ _=>rfl⟩
theorem Chg.trans {w W V:World} {g:Nat} (h:Chg w W g) (h':Chg W V g):Chg w V g:=
 ⟨h'.os.trans h.os,h'.tape.trans h.tape,h'.output.trans h.output,Nat.le_trans h.size h'.size,fun k hk hne=>(h'.oth k (Nat.lt_of_lt_of_le hk h.size) hne).trans (h.oth k hk hne)⟩
theorem Chg.of {w W:World} {g:Nat} (hb:Below w.heap.size w W):Chg w W g:=⟨hb.os,hb.tape,hb.output,hb.size,fun k hk _=>hb.block k hk⟩
theorem Chg.upd {w W:World} {g:Nat} {cs:Array Value} {t:TypeId} (hu:Upd w W g cs t):Chg w W g:=by
 have h:=hu.bel 0 w (Nat.zero_le _) (Below.refl _ _);exact ⟨h.os,h.tape,h.output,h.size,fun k _ hne=>hu.oth k hne⟩
theorem Chg.keep {w W:World} {g G:Nat} {cs:Array Value} {t:TypeId} (h:Chg w W g) (hb:Blk w G cs t) (hne:G≠g):Blk W G cs t:=by
 have hl:=hb.lt;unfold Blk at *;rw [h.oth G hl hne];exact hb
theorem Chg.bel {w W:World} {g:Nat} (h:Chg w W g) (hl:g≤w.heap.size):Below g w W:=
 ⟨h.os,h.tape,h.output,h.size,fun k hk=>h.oth k (by omega) (by omega)⟩
def Far (p:Option Addr) (len g:Nat):Prop:=0<len→∀ y,p=some y→y.block≠g
theorem row_chg {w W:World} {g:Nat} {p:Option Addr} {len:Nat} {l:List Du} (h:RowD w p len l) (hc:Chg w W g) (hf:Far p len g):RowD W p len l:=by
 refine ⟨h.1,?_⟩;rcases Nat.eq_zero_or_pos len with h0 | h0
 ·exact .inl h0
 ·obtain ⟨b,off,rfl,hb,hcs⟩:=h.at h0;have hne:b≠g:=hf h0 _ rfl;refine .inr ⟨b,off,rfl,fun i hi=>?_⟩;have e:∀ o,W.cell? ⟨b,o,none⟩=w.cell? ⟨b,o,none⟩:=fun o=>by simp only [World.cell?,hc.oth b hb hne]
  rw [e,e];exact hcs i hi
theorem came_chg {w W:World} {g:Nat} {p:Option Addr} {len cap:Nat} {l:List Du} (h:Came w p len cap l) (hc:Chg w W g) (hf:Far p len g):Came W p len cap l:=⟨row_chg h.row hc hf,h.nil,h.room,h.bytes,h.wf⟩
theorem fresh_far {w:World} {g:Nat} {p:Option Addr} {len cap:Nat} {l:List Du} (h:deb.Fresh w (g+1) p len cap l):Far p len g:=fun hn y hy=>by have:=h.new hn y hy;omega
theorem fresh_chg {w W:World} {g:Nat} {p:Option Addr} {len cap:Nat} {l:List Du} (h:deb.Fresh w (g+1) p len cap l) (hc:Chg w W g):deb.Fresh W (g+1) p len cap l:=⟨came_chg h.came hc (fresh_far h),h.new⟩
def wcs (x:Ac) (b:Bi) (p:Option Addr) (len cap:Nat):Array Value:=#[zI x.me,zI x.rv,zI x.nx,zI x.mo,zI x.bo,zI x.fr,.slice p len cap,zI b.id,zI b.te,zI b.de,zI b.fe,zI b.pr,zI b.ch,zI b.un]
def WPost (w:World) (g:Nat) (R:Ac→Bi→Int→Prop) (e:Ending) (w':World):Prop:=∃ y b q n c f,e = .returned (zI f)∧R y b f∧Blk w' g (wcs y b q n c) 252∧deb.Fresh w' (g+1) q n c y.ds∧Below g w w'
def DPost (w:World) (g:Nat) (R:Ac→Bi→Int→Prop) (e:Ending) (w':World):Prop:=∃ y b q n c f,e = .returned (zI f)∧R y b f∧Blk w' g (wcs y b q n c) 252∧deb.Fresh w' (g+1) q n c y.ds∧Chg w w' g
theorem DPost.w {w w':World} {g:Nat} {R:Ac→Bi→Int→Prop} {e:Ending} (h:DPost w g R e w') (hl:g≤w.heap.size):WPost w g R e w':=by
 obtain ⟨y,b,q,n,c,f,h1,h2,h3,h4,h5⟩:=h;exact ⟨y,b,q,n,c,f,h1,h2,h3,h4,h5.bel hl⟩
def Or0 (Is:Ac→Bi→Int→Prop) (y:Ac) (b:Bi) (f:Int):Prop:=(f≠0∧Is ac0 bi0 f)∨(f=0∧Is y b 0)
theorem blk_new4 (w:World) (o p q r:Obj) (cs:Array Value) (t:TypeId):Blk (((((w.alloc o).alloc p).alloc q).alloc r).alloc (.cells cs t)) (w.heap.size+1+1+1+1) cs t:=by
 have h:=Blk.new ((((w.alloc o).alloc p).alloc q).alloc r) cs t
 rwa [show ((((w.alloc o).alloc p).alloc q).alloc r).heap.size=w.heap.size+1+1+1+1 by simp] at h
theorem blk_new5 (w:World) (o p q r s:Obj) (cs:Array Value) (t:TypeId):Blk ((((((w.alloc o).alloc p).alloc q).alloc r).alloc s).alloc (.cells cs t)) (w.heap.size+1+1+1+1+1) cs t:=by
 have h:=Blk.new (((((w.alloc o).alloc p).alloc q).alloc r).alloc s) cs t
 rwa [show (((((w.alloc o).alloc p).alloc q).alloc r).alloc s).heap.size=w.heap.size+1+1+1+1+1 by simp] at h
theorem wp_letOp1 {P:Program} {o:Oper} {a:Act} {w:World} {K:Act→World→Prop} {Q:Exit→Act→World→Prop} (ty:TypeId) (x y:Operand) (ho:o.op = .store ty x y)
  (g off:Nat) (hx:a.eval x = .pointer (some ⟨g,off,none⟩)) (v:Value) (hy:a.eval y=v) (hv:v.cells=#[v]) (hi:(P.info? ty).map (·.size)=some 1) (h1:v.oneCell'=true)
  (cs:Array Value) (t:TypeId) (hB:Blk w g cs t) (hin:off<cs.size) (hd:o.dst=none)
  (h:∀ W,Upd w W g (cs.setIfInBounds off v) t→K a W):o.wp P a w K Q:=by
 have hs:=run_storeVar_let (P:=P) (w:=w) (g:=g) (off:=off) (ty:=ty) (t:=t) (v:=v) (cells:=#[v]) (cs:=cs) hv (by simpa using hi) (by simpa using h1) hB (by simp;omega);have hu:=upd_cells g t [v] off w cs hB;unfold Oper.wp execOp;simp only [ho,hx,hy,Instr.storeAt,Instr.sureAddr,Sem.run_bind,Sem.run_pure,Result.andThen_ok,hs];have:=h _ hu;have e:a.put o.dst undef=a:=by rw [hd];rfl
 rw [← e] at this;exact this
end acc
namespace tar
open Go.RowKit
open Classical in
theorem kcheck:KtCheck:=by
 intro w a n cap ls hcame;have hr:=hcame.row;have hn:=hcame.most;clear hcame;have hlen:=hr.1;have HIU:Hid (∀ x W,Calls Tryz.prog 113 #[zI 1,zI 10000000,zI x] W fun e w'=>e = .returned (.bool (decide (1≤x∧x≤10000000)))∧w'=W):=fun x W=>pwithin 1 10000000 x W;have HIP:Hid (∀ x W,Calls Tryz.prog 113 #[zI 1,zI 100000,zI x] W fun e w'=>e = .returned (.bool (decide (1≤x∧x≤100000)))∧w'=W):=fun x W=>pwithin 1 100000 x W;by_cases hs:1≤n∧n≤8
 ·have HS:Hid (Sized ls):=by show 1≤ls.length∧ls.length≤8;rw [hlen];exact hs
  obtain ⟨hs1,hs2⟩:=hs;have hd0:((n:Int) == 0)=false:=by simp;omega
  have hd8:decide ((8:Int)<(n:Int))=false:=by simp;omega
  obtain ⟨b,off,rfl,hbl,hc⟩:=hr.at hs1;have HC:Hid (∀ i,i<n→w.cell? ⟨b,off+i*2,none⟩=some (zI (ls.getD i du0).a)∧w.cell? ⟨b,off+i*2+1,none⟩=some (zI (ls.getD i du0).b)):=hc;have HLEN:Hid (ls.length=n):=hlen;have HRS:Hid (∀ W,Below w.heap.size w W→Calls Tryz.prog 114 #[.slice (some ⟨b,off,none⟩) n cap] W fun e w'=>e = .returned (.bool (decide (Rises ls)))∧Below W.heap.size W w'):=fun W hW=>prises b off n cap ls W hs1 hs2 hlen (Nat.lt_of_lt_of_le hbl hW.size) (fun i hi=>⟨(hW.cell (p:=⟨b,off+i*2,none⟩) hbl).trans (hc i hi).1,(hW.cell (p:=⟨b,off+i*2+1,none⟩) hbl).trans (hc i hi).2⟩);have hnm:n≤9223372036854775807:=by omega
  clear hc hr hn hlen;go_enter Tryz.func68,Tryz.ntmps68;go_wp2_with fail;go_loopw [15] (fun x wr=>∃ k:Nat,k≤n∧x=zI (k:Int)∧(∀ i,i<k→(1≤(ls.getD i du0).a∧(ls.getD i du0).a≤10000000)∧1≤(ls.getD i du0).b∧(ls.getD i du0).b≤100000)∧Below w.heap.size w wr) (fun x _=>n - (intOf x).toNat)
  case atStart=>exact ⟨0,Nat.zero_le _,rfl,fun i hi=>absurd hi (Nat.not_lt_zero _),Below.refl _ _⟩
  case round=>
   obtain ⟨k,hk,rfl,hf,hb⟩:=hrel;have HF:Hid (∀ i,i<k→(1≤(ls.getD i du0).a∧(ls.getD i du0).a≤10000000)∧1≤(ls.getD i du0).b∧(ls.getD i du0).b≤100000):=hf;have HB:Hid (Below w.heap.size w wr):=hb;clear hf;by_cases hlt:k<n
   ·have hdl:decide ((k:Int)<(n:Int))=true:=by simp;omega
    have c0:wr.cell? ⟨b,off+k*2,none⟩=some (zI (ls.getD k du0).a):=(hb.cell (p:=⟨b,off+k*2,none⟩) hbl).trans (HC.o k hlt).1;have c1:wr.cell? ⟨b,off+k*2+1,none⟩=some (zI (ls.getD k du0).b):=(hb.cell (p:=⟨b,off+k*2+1,none⟩) hbl).trans (HC.o k hlt).2;have HBA:Hid (∀ o,Below w.heap.size w (wr.alloc o)):=fun o=>hb.alloc hb.size o;clear hb;have HU:=HIU.o (ls.getD k du0).a;have HP:=HIP.o (ls.getD k du0).b;by_cases hu:1≤(ls.getD k du0).a∧(ls.getD k du0).a≤10000000
    ·rw [decide_eq_true hu] at HU;by_cases hp:1≤(ls.getD k du0).b∧(ls.getD k du0).b≤100000
     ·rw [decide_eq_true hp] at HP
      have HF2:Hid (∀ i,i<k+1→(1≤(ls.getD i du0).a∧(ls.getD i du0).a≤10000000)∧1≤(ls.getD i du0).b∧(ls.getD i du0).b≤100000):=fun i hi=>by
       by_cases e:i=k
       ·subst e;exact ⟨hu,hp⟩
       ·exact HF.o i (by omega)
      have HU2:Hid (∀ W,Calls Tryz.prog 113 #[zI 1,zI 10000000,zI (ls.getD k du0).a] W fun e w'=>e = .returned (.bool true)∧w'=W):=HU;have HP2:Hid (∀ W,Calls Tryz.prog 113 #[zI 1,zI 100000,zI (ls.getD k du0).b] W fun e w'=>e = .returned (.bool true)∧w'=W):=HP;clear HU HP hu hp HF;generalize (ls.getD k du0).a=x at *;generalize (ls.getD k du0).b=y at *;go_wp2_with fail;refine (HU2.o _).mono ?_;rintro e w2 ⟨rfl,hw2⟩;subst w2;go_wp2_with fail;refine (HP2.o _).mono ?_;rintro e w2 ⟨rfl,hw2⟩;subst w2;go_wp2_with fail;go_roundw
      case rel=>exact ⟨k+1,by omega,by go_num,HF2.o,HBA.o _⟩
      case measure=>simp [intOf];omega
     ·rw [decide_eq_false hp] at HP;have HN:Hid (¬ Fits ls):=fun h=>hp (h k (by rw [HLEN.o];exact hlt)).2;have HU2:Hid (∀ W,Calls Tryz.prog 113 #[zI 1,zI 10000000,zI (ls.getD k du0).a] W fun e w'=>e = .returned (.bool true)∧w'=W):=HU;have HP2:Hid (∀ W,Calls Tryz.prog 113 #[zI 1,zI 100000,zI (ls.getD k du0).b] W fun e w'=>e = .returned (.bool false)∧w'=W):=HP;clear HU HP hu hp HF;generalize (ls.getD k du0).a=x at *;generalize (ls.getD k du0).b=y at *;go_wp2_with fail;refine (HU2.o _).mono ?_;rintro e w2 ⟨rfl,hw2⟩;subst w2;go_wp2_with fail;refine (HP2.o _).mono ?_;rintro e w2 ⟨rfl,hw2⟩;subst w2;go_wp2_with fail;go_ret;exact ⟨_,rfl,.inr (.inl ⟨HS.o,HN.o,rfl⟩),HBA.o _⟩
    ·rw [decide_eq_false hu] at HU;have HN:Hid (¬ Fits ls):=fun h=>hu (h k (by rw [HLEN.o];exact hlt)).1;have HU2:Hid (∀ W,Calls Tryz.prog 113 #[zI 1,zI 10000000,zI (ls.getD k du0).a] W fun e w'=>e = .returned (.bool false)∧w'=W):=HU;clear HU HP hu HF;generalize (ls.getD k du0).a=x at *;generalize (ls.getD k du0).b=y at *;go_wp2_with fail;refine (HU2.o _).mono ?_;rintro e w2 ⟨rfl,hw2⟩;subst w2;go_wp2_with fail;go_ret;exact ⟨_,rfl,.inr (.inl ⟨HS.o,HN.o,rfl⟩),HBA.o _⟩
   ·obtain rfl:k=n:=by omega
    have hdl:decide ((k:Int)<(k:Int))=false:=by simp
    have HFT:Hid (Fits ls):=fun i hi=>HF.o i (by rw [HLEN.o] at hi;exact hi);have HR:=HRS.o wr hb;clear HF HIU HIP HRS hb;have HE:Hid (Ends ls↔(ls.getD (k - 1) du0).a=10000000):=by show Ends ls↔_;unfold Ends;rw [HLEN.o]
    have HC1:Hid (∀ W,Below wr.heap.size wr W→W.cell? ⟨b,off+(k - 1)*2,none⟩=some (zI (ls.getD (k - 1) du0).a)):=fun W hW=>((HB.o.trans (hW.mono HB.o.size)).cell (p:=⟨b,off+(k - 1)*2,none⟩) hbl).trans (HC.o (k - 1) (by omega)).1;have hsub:((k:Int) - 1)=((k - 1:Nat):Int):=by omega
    have hjm:k - 1<k:=by omega
    by_cases hri:Rises ls
    ·rw [decide_eq_true hri] at HR;have HR2:Hid (Calls Tryz.prog 114 #[.slice (some ⟨b,off,none⟩) k cap] wr fun e w'=>e = .returned (.bool true)∧Below wr.heap.size wr w'):=HR;have HRI:Hid (Rises ls):=hri;clear HR hri;go_wp2_with fail;refine HR2.o.mono ?_;rintro e w2 ⟨rfl,hw2⟩;have c1:=HC1.o w2 hw2;have HB2:=shB HB hw2;clear hw2 HR2;by_cases he:(ls.getD (k - 1) du0).a=10000000
     ·have HRT:Hid (Right ls):=⟨HS.o,HFT.o,HRI.o,HE.o.2 he⟩
      have hne:((ls.getD (k - 1) du0).a != 10000000)=false:=by rw [he];rfl
      clear he HE HC1;generalize (ls.getD (k - 1) du0).a=y at *;generalize k - 1=j1 at *;go_wp2_with fail;go_ret;exact ⟨_,rfl,.inr (.inr (.inr ⟨HRT.o,rfl⟩)),HB2.o⟩
     ·have HN:Hid (¬ (Rises ls∧Ends ls)):=fun h=>he (HE.o.1 h.2);have hne:((ls.getD (k - 1) du0).a != 10000000)=true:=by simpa using he
      clear he HE HC1;generalize (ls.getD (k - 1) du0).a=y at *;generalize k - 1=j1 at *;go_wp2_with fail;go_ret;exact ⟨_,rfl,.inr (.inr (.inl ⟨HS.o,HFT.o,HN.o,rfl⟩)),HB2.o⟩
    ·rw [decide_eq_false hri] at HR;have HR2:Hid (Calls Tryz.prog 114 #[.slice (some ⟨b,off,none⟩) k cap] wr fun e w'=>e = .returned (.bool false)∧Below wr.heap.size wr w'):=HR;have HN:Hid (¬ (Rises ls∧Ends ls)):=fun h=>hri h.1;clear HR hri;go_wp2_with fail;refine HR2.o.mono ?_;rintro e w2 ⟨rfl,hw2⟩;have HB2:=shB HB hw2;clear hw2 HR2 HE HC1;generalize k - 1=j1 at *;go_wp2_with fail;go_ret;exact ⟨_,rfl,.inr (.inr (.inl ⟨HS.o,HFT.o,HN.o,rfl⟩)),HB2.o⟩
 ·have HS:Hid (¬ Sized ls):=by show ¬ (1≤ls.length∧ls.length≤8);rw [hlen];exact hs
  have hnm:n≤9223372036854775807:=by unfold maxLen at hn;omega
  clear hr hlen hn;by_cases h0:n=0
  ·subst h0;clear hs hnm;go_enter Tryz.func68,Tryz.ntmps68;go_wp2_with fail;go_ret;exact ⟨_,rfl,.inl ⟨HS.o,rfl⟩,Below.refl _ _⟩
  ·have hd0:((n:Int) == 0)=false:=by simp;omega
   have hd8:decide ((8:Int)<(n:Int))=true:=by simp;omega
   clear hs h0;go_enter Tryz.func68,Tryz.ntmps68;go_wp2_with fail;go_ret;exact ⟨_,rfl,.inl ⟨HS.o,rfl⟩,Below.refl _ _⟩
end tar
namespace acc
open tar (Du du0 Came RowD Ld PairT)
open Go.RowKit
def NumPost (w:World) (g:Nat) (x:Ac) (b:Bi) (p:Option Addr) (len cap:Nat) (e:Ending) (w':World):Prop:=
 Chg w w' g∧((¬ x.nx≤1048575∧e = .returned (zI 20)∧Blk w' g (wcs x b p len cap) 252)∨(x.nx≤1048575∧e = .returned (zI 0)∧Blk w' g (wcs { x with nx:=x.nx+1 } { b with id:=x.nx } p len cap) 252))
theorem pnum (g:Nat) (x:Ac) (b:Bi) (p:Option Addr) (len cap:Nat) (w:World) (hw:Blk w g (wcs x b p len cap) 252) (hn:1≤x.nx∧x.nx≤1048576):Calls Tryz.prog 161 #[.pointer (some ⟨g,0,none⟩)] w fun e w'=>NumPost w g x b p len cap e w':=by
 obtain ⟨me,rv,nx,mo,bo,fr,ds⟩:=x;obtain ⟨id,te,de,fe,pr,ch,un⟩:=b;simp only [] at hn;have HI:Hid (Blk w g #[zI me,zI rv,zI nx,zI mo,zI bo,zI fr,.slice p len cap,zI id,zI te,zI de,zI fe,zI pr,zI ch,zI un] 252):=hw;have q2:w.cell? ⟨g,2,none⟩=some (zI nx):=HI.o.cell 2;clear hw;by_cases h1:nx≤1048575
 ·have d1:decide (1048575<nx)=false:=decide_eq_false (by omega);have hwr:IntKind.i64.wrap (nx+1)=nx+1:=by rw [IntKind.wrap_i64];omega
  have H1:Hid (nx≤1048575):=h1;go_enter Tryz.func161,Tryz.ntmps161;go_wp2_with (first | (refine wp_let1 rfl 3 _ _ rfl g 7 rfl .i64 nx rfl (by kernel_rfl) #[zI me,zI rv,zI nx,zI mo,zI bo,zI fr,.slice p len cap,zI id,zI te,zI de,zI fe,zI pr,zI ch,zI un] 252 HI.o (by simp) ?_) | fail)
  intro W1 hU1;have HI1:Hid (Blk W1 g #[zI me,zI rv,zI nx,zI mo,zI bo,zI fr,.slice p len cap,zI nx,zI te,zI de,zI fe,zI pr,zI ch,zI un] 252):=hU1.blk;have HC1:Hid (Chg w W1 g):= .upd hU1;have q2':W1.cell? ⟨g,2,none⟩=some (zI nx):=HI1.o.cell 2;clear hU1 q2 HI d1;go_wp2_with (first | (refine wp_let1 rfl 3 _ _ rfl g 2 rfl .i64 (nx+1) rfl (by kernel_rfl) #[zI me,zI rv,zI nx,zI mo,zI bo,zI fr,.slice p len cap,zI nx,zI te,zI de,zI fe,zI pr,zI ch,zI un] 252 HI1.o (by simp) ?_) | fail)
  intro W2 hU2;have HI2:Hid (Blk W2 g #[zI me,zI rv,zI (nx+1),zI mo,zI bo,zI fr,.slice p len cap,zI nx,zI te,zI de,zI fe,zI pr,zI ch,zI un] 252):=hU2.blk;have HC2:Hid (Chg w W2 g):=HC1.o.trans (.upd hU2);clear hU2 q2' HI1 HC1;go_wp2_with fail;go_ret;exact ⟨HC2.o,.inr ⟨H1.o,rfl,HI2.o⟩⟩
 ·have d1:decide (1048575<nx)=true:=decide_eq_true (by omega);have H1:Hid (¬ nx≤1048575):=h1;clear h1 hn;go_enter Tryz.func161,Tryz.ntmps161;go_wp2_with fail;go_ret;exact ⟨Chg.refl _ _,.inl ⟨Int.not_le.2 H1.o,rfl,HI.o⟩⟩
end acc
namespace deb
open tar (Du du0 Came TwoPost)
open Go.RowKit
def KdTotal:Prop:=∀ (W:World) (a:Option Addr) (len cap:Nat) (ls:List Du),Came W a len cap ls→Calls Tryz.prog 184 #[.slice a len cap] W fun e w'=>TwoPost W (OwedIs ls) e w'
open tar (RowD Ld ErrPost PairT)
theorem ktotal:KdTotal:=by
 intro w a len cap ls hcame;have hr:=hcame.row;have HFA:Hid (Calls Tryz.prog 199 #[.slice a len cap] w fun e w'=>∃ f,e = .returned (zI f)∧FaultIs ls f∧Below w.heap.size w w'):=pcheck a len cap ls w hr hcame.most;have HOW:Hid (Mays ls→∀ W,Below w.heap.size w W→Calls Tryz.prog 200 #[.slice a len cap] W fun e w'=>e = .returned (zI (sumD ls))∧Below W.heap.size W w'):=fun hm W hW=>powed a len cap ls W (hr.below hW) hm;clear hcame hr;go_enter Tryz.func184,Tryz.ntmps184;go_wp2_with fail;refine HFA.o.mono ?_;rintro e w1 ⟨f,rfl,hf,hb1⟩;have HB1:Hid (Below w.heap.size w w1):=hb1;have HF:Hid (FaultIs ls f):=hf;clear hb1 HFA;by_cases h0:f=0
 ·subst h0;have hm:=hf.ok.1 rfl;have HO2:Hid (Calls Tryz.prog 200 #[.slice a len cap] w1 fun e w'=>e = .returned (zI (sumD ls))∧Below w1.heap.size w1 w'):=HOW.o hm w1 HB1.o;clear hf hm HOW;go_wp2_with fail;refine HO2.o.mono ?_;rintro e w2 ⟨rfl,hb2⟩;have HB2:=shB HB1 hb2;clear hb2 HO2;go_wp2_with fail;go_ret2;exact ⟨_,_,rfl,⟨HF.o,.inl ⟨rfl,rfl⟩⟩,HB2.o⟩
 ·have hne:(f != 0)=true:=by simpa using h0
  have HN:Hid (f≠0):=h0;clear hf h0 HOW;go_wp2_with fail;go_ret2;exact ⟨_,_,rfl,⟨HF.o,.inr ⟨HN.o,rfl⟩⟩,HB1.o⟩
end deb
namespace acc
open tar (Du du0 Came RowD Ld PairT)
open Go.RowKit
def MayPost (w:World) (x:Ac) (e:Ending) (w':World):Prop:=∃ r,e = .returned (.bool r)∧(r=true↔AMay x)∧Below w.heap.size w w'
theorem pmay (x:Ac) (p:Option Addr) (len cap:Nat) (w:World) (h:Came w p len cap x.ds):Calls Tryz.prog 159 #[.agg #[zI x.me,zI x.rv,zI x.nx,zI x.mo,zI x.bo,zI x.fr,.slice p len cap]] w fun e w'=>MayPost w x e w':=by
 have HI0:Hid (∀ W,Calls Tryz.prog 69 #[zI 0,zI 49,zI x.me] W fun e w'=>e = .returned (.bool (decide (0≤x.me∧x.me≤49)))∧w'=W):=fun W=>awithin 0 49 x.me W;have HI1:Hid (∀ W,Calls Tryz.prog 69 #[zI 0,zI 15,zI x.rv] W fun e w'=>e = .returned (.bool (decide (0≤x.rv∧x.rv≤15)))∧w'=W):=fun W=>awithin 0 15 x.rv W;have HI2:Hid (∀ W,Calls Tryz.prog 69 #[zI 1,zI 1048576,zI x.nx] W fun e w'=>e = .returned (.bool (decide (1≤x.nx∧x.nx≤1048576)))∧w'=W):=fun W=>awithin 1 1048576 x.nx W;have HI3:Hid (∀ W,Calls Tryz.prog 69 #[zI 0,zI 2399,zI x.mo] W fun e w'=>e = .returned (.bool (decide (0≤x.mo∧x.mo≤2399)))∧w'=W):=fun W=>awithin 0 2399 x.mo W;have HI4:Hid (∀ W,Calls Tryz.prog 69 #[zI 0,zI 10000000,zI x.bo] W fun e w'=>e = .returned (.bool (decide (0≤x.bo∧x.bo≤10000000)))∧w'=W):=fun W=>awithin 0 10000000 x.bo W;have HI5:Hid (∀ W,Calls Tryz.prog 69 #[zI (-1),zI x.mo,zI x.fr] W fun e w'=>e = .returned (.bool (decide (-1≤x.fr∧x.fr≤x.mo)))∧w'=W):=fun W=>awithin (-1) x.mo x.fr W;obtain ⟨WW,HWW,HBK,HBA,-⟩:=sh1 w #[zI x.me,zI x.rv,zI x.nx,zI x.mo,zI x.bo,zI x.fr,.slice p len cap] 51;have HTO:Hid (Calls Tryz.prog 184 #[.slice p len cap] WW fun e w'=>tar.TwoPost WW (deb.OwedIs x.ds) e w'):=deb.ktotal _ p len cap x.ds (h.below HBA.o);have c6:WW.cell? ⟨w.heap.size,6,none⟩=some (.slice p len cap):=HBK.o.cell 6;clear h;go_enter Tryz.func159,Tryz.ntmps159;go_upto_region 1 with fail
 rw [HWW.o];clear HWW;go_wp2_with fail;refine HTO.o.mono ?_;rintro e w1 ⟨tt,f,rfl,hf,hb1⟩;have HB1:=shB HBA hb1;have HK1:=shN HBK hb1;have HF:Hid (f=0↔deb.Mays x.ds):=hf.1.ok;clear hf hb1 HTO HBA HBK c6;obtain ⟨c0,c1,c2,c3,c4,c5,c6⟩:=scl7 HK1;by_cases h0:f=0
 ·have HM:Hid (deb.Mays x.ds):=HF.o.1 h0;subst h0;by_cases g0:0≤x.me∧x.me≤49
  ·rw [decide_eq_true g0] at HI0;go_wp2_with fail;refine (HI0.o _).mono ?_;rintro e w2 ⟨rfl,hw2⟩;subst w2;by_cases g1:0≤x.rv∧x.rv≤15
   ·rw [decide_eq_true g1] at HI1;go_wp2_with fail;refine (HI1.o _).mono ?_;rintro e w2 ⟨rfl,hw2⟩;subst w2;by_cases g2:1≤x.nx∧x.nx≤1048576
    ·rw [decide_eq_true g2] at HI2;go_wp2_with fail;refine (HI2.o _).mono ?_;rintro e w2 ⟨rfl,hw2⟩;subst w2;by_cases g3:0≤x.mo∧x.mo≤2399
     ·rw [decide_eq_true g3] at HI3;go_wp2_with fail;refine (HI3.o _).mono ?_;rintro e w2 ⟨rfl,hw2⟩;subst w2;by_cases g4:0≤x.bo∧x.bo≤10000000
      ·rw [decide_eq_true g4] at HI4;go_wp2_with fail;refine (HI4.o _).mono ?_;rintro e w2 ⟨rfl,hw2⟩;subst w2;by_cases g5:-1≤x.fr∧x.fr≤x.mo
       ·rw [decide_eq_true g5] at HI5;go_wp2_with fail;refine (HI5.o _).mono ?_;rintro e w2 ⟨rfl,hw2⟩;subst w2;have HY:Hid (AMay x):=⟨HM.o,g0,g1,g2,g3,g4,g5⟩
        go_wp2_with fail;go_ret;exact ⟨true,rfl,⟨fun _=>HY.o,fun _=>rfl⟩,HB1.o⟩
       ·rw [decide_eq_false g5] at HI5;have HN:Hid (¬ AMay x):=fun h=>g5 h.2.2.2.2.2.2;clear g5;go_wp2_with fail;refine (HI5.o _).mono ?_;rintro e w2 ⟨rfl,hw2⟩;subst w2;go_wp2_with fail
        all_goals first
         | (rename_i q1 q2;exact absurd q1 (by simp [undef]))
         | (go_ret;exact ⟨false,rfl,⟨fun h=>absurd h (by decide),fun h=>absurd h HN.o⟩,HB1.o⟩)
      ·rw [decide_eq_false g4] at HI4;have HN:Hid (¬ AMay x):=fun h=>g4 h.2.2.2.2.2.1;clear g4;go_wp2_with fail;refine (HI4.o _).mono ?_;rintro e w2 ⟨rfl,hw2⟩;subst w2;go_wp2_with fail
       all_goals first
        | (rename_i q1 q2;exact absurd q1 (by simp [undef]))
        | (go_ret;exact ⟨false,rfl,⟨fun h=>absurd h (by decide),fun h=>absurd h HN.o⟩,HB1.o⟩)
     ·rw [decide_eq_false g3] at HI3;have HN:Hid (¬ AMay x):=fun h=>g3 h.2.2.2.2.1;clear g3;go_wp2_with fail;refine (HI3.o _).mono ?_;rintro e w2 ⟨rfl,hw2⟩;subst w2;go_wp2_with fail
      all_goals first
       | (rename_i q1 q2;exact absurd q1 (by simp [undef]))
       | (go_ret;exact ⟨false,rfl,⟨fun h=>absurd h (by decide),fun h=>absurd h HN.o⟩,HB1.o⟩)
    ·rw [decide_eq_false g2] at HI2;have HN:Hid (¬ AMay x):=fun h=>g2 h.2.2.2.1;clear g2;go_wp2_with fail;refine (HI2.o _).mono ?_;rintro e w2 ⟨rfl,hw2⟩;subst w2;go_wp2_with fail
     all_goals first
      | (rename_i q1 q2;exact absurd q1 (by simp [undef]))
      | (go_ret;exact ⟨false,rfl,⟨fun h=>absurd h (by decide),fun h=>absurd h HN.o⟩,HB1.o⟩)
   ·rw [decide_eq_false g1] at HI1;have HN:Hid (¬ AMay x):=fun h=>g1 h.2.2.1;clear g1;go_wp2_with fail;refine (HI1.o _).mono ?_;rintro e w2 ⟨rfl,hw2⟩;subst w2;go_wp2_with fail
    all_goals first
     | (rename_i q1 q2;exact absurd q1 (by simp [undef]))
     | (go_ret;exact ⟨false,rfl,⟨fun h=>absurd h (by decide),fun h=>absurd h HN.o⟩,HB1.o⟩)
  ·rw [decide_eq_false g0] at HI0;have HN:Hid (¬ AMay x):=fun h=>g0 h.2.1;clear g0;go_wp2_with fail;refine (HI0.o _).mono ?_;rintro e w2 ⟨rfl,hw2⟩;subst w2;go_wp2_with fail
   all_goals first
    | (rename_i q1 q2;exact absurd q1 (by simp [undef]))
    | (go_ret;exact ⟨false,rfl,⟨fun h=>absurd h (by decide),fun h=>absurd h HN.o⟩,HB1.o⟩)
 ·have d0:(f == 0)=false:=by simpa using h0
  have HN:Hid (¬ AMay x):=fun h=>h0 (HF.o.2 h.1);clear h0;go_wp2_with fail
  all_goals first
   | (rename_i q1 q2;exact absurd q1 (by simp [undef]))
   | (go_ret;exact ⟨false,rfl,⟨fun h=>absurd h (by decide),fun h=>absurd h HN.o⟩,HB1.o⟩)
end acc
section
open Go.RowKit
theorem run_neOp {P:Program} {o:Oper} {a:Act} {w:World} (ty rt:TypeId) (x y:Operand) (ho:o.op = .binOp .neq ty x y rt) (ca cb:Array Value) (hx:a.eval x = .agg ca) (hy:a.eval y = .agg cb) (hg:P.eqGuardType P.depth ty=false) (b:Bool)
  (hr:(Op.equalIn 10000 ty (.agg ca) (.agg cb)).run P w = .ok b w):(execOp a.eval o).run P w = .ok (.value (.bool (!b))) w:=by
 have hr':(Op.equal ty (.agg ca) (.agg cb)).run P w = .ok b w:=hr;unfold execOp;simp only [ho,hx,hy];have hp:∀ w':World,(program:Sem Program).run P w' = .ok P w':=fun _=>rfl;simp [eqGuard,hg,binOp,hr',hp,Sem.run_bind]
theorem wp_neE {P:Program} {ops:Array Oper} {rest:List Oper} {o:Oper} {a:Act} {w:World} {Q:Exit→Act→World→Prop} (hw:Region.wanted o (yielded ops a.tmps)=true) (ty rt:TypeId) (x y:Operand) (ho:o.op = .binOp .neq ty x y rt) (ca cb:Array Value) (hx:a.eval x = .agg ca) (hy:a.eval y = .agg cb) (hg:P.eqGuardType P.depth ty=false) (b:Bool)
  (hr:(Op.equalIn 10000 ty (.agg ca) (.agg cb)).run P w = .ok b w) (d:Nat) (hd:o.dst=some d) (h:wpList P ops Q rest (a.put (some d) (.bool (!b))) w):wpList P ops Q (o :: rest) a w:=
 wpList_step fun K hK=>by
  rw [if_pos hw];exact wp_runOp d hd (run_neOp ty rt x y ho ca cb hx hy hg b hr) (hK _ _ h)
end
namespace disk
open Go.RowKit cell
theorem clone_any (x:Addr) (len cap:Nat) (zs:List Int) (w:World) (hr:RowU w (some x) len zs) (hl:len≤100000) :
  Calls Tryz.prog 64 #[.slice (some x) len cap] w fun e w'=>GaveU w zs e w':=by
 obtain ⟨i0,hi,hz0,hz1,hz2⟩:=info_parts info_u32;obtain ⟨hz,hr⟩:=hr;have hown:(w.alloc (.cells #[] 99)).ownsRow w.heap.size 99 1 (.slice (some ⟨w.heap.size,0,none⟩) 0 0) 0 []:=World.ownsRow_lit w #[] 0 (Nat.le_refl _) (by unfold maxLen;omega) rfl;have HO:Hid ((w.alloc (.cells #[] 99)).ownsRow w.heap.size 99 1 (.slice (some ⟨w.heap.size,0,none⟩) 0 0) 0 []):=hown;have HSZ:Hid (w.heap.size≤(w.alloc (.cells #[] 99)).heap.size):=alloc_le (Nat.le_refl _) _;clear hown;have heq:∀ W:World,(binOp BinOp.eql 25 (.slice (some x) len cap) (zS)).run Tryz.prog W = .ok (.bool false) W:=fun W=>by kernel_rfl
 go_enter Tryz.func64,Tryz.ntmps64
 go_wp2_with (first
  | (at_builtin;refine wpList_append_own _ rfl _ _ 25 rfl w.heap.size 99 i0 (.int .u32 0) 1 4 Tryz.underlying25 hi hz0 hz1 hz2 rfl (by decide) _ _ _ rfl HO.o x len cap (zs.map (.int .u32)) rfl ?c0 ?c1 ?c2 ?c3 ?c4 HSZ.o ?_)
  | go_in)
 case c0=>simp [hz]
 case c1=>
  intro j u hu;rcases hr with h | ⟨b,off,h,hc⟩
  ·rw [List.getElem?_eq_none (by simp;omega)] at hu;cases hu
  ·obtain rfl:=Option.some.inj h;by_cases hj:j<zs.length
   ·simp [List.getElem?_eq_getElem hj] at hu;subst hu;have:=hc j (by omega);rw [Addr.add_lit,World.cell?_alloc_lt w _ _ (World.block_lt_of_cell? w _ this)];simpa [List.getD,List.getElem?_eq_getElem hj] using this
   ·rw [List.getElem?_eq_none (by simp;omega)] at hu;cases hu
 case c2=>intro u hu;obtain ⟨z,_,rfl⟩:=List.mem_map.1 hu;rfl
 case c3=>unfold maxLen;omega
 case c4=>omega
 intro v' w' hown hg _;have HW:Hid (Ws w' w.heap.size v' zs):=by show w'.ownsRow _ _ _ _ _ _;rw [hz];simpa using hown
 have HG:Hid (Below w.heap.size w w'):=own_bel HO.o hg ((Below.refl _ _).alloc (Nat.le_refl _) _) (Nat.le_refl _) HSZ.o;clear hown hg;go_wp2;go_ret;exact GaveU.mk HW.o HG.o
theorem step_sli {P:Program} {T S:TypeId} (hP:SliT P T S) {w:World} {ops:Array Oper} {o:Oper} {a:Act} {K:Act→World→Prop} {Q:Exit→Act→World→Prop} {E:Prop} (hgd:o.guard=none) (s x:Operand)
  (ho:o.op = .call { callee:= .builtin .append,args:=#[s,x],argTypes:=#[S,S] })
  (base G:Nat) (v:Value) (l:List Sli) (r:Sli) (hs:a.eval s=v) (hx:a.eval x = .slice (some ⟨G,0,none⟩) 1 1) (hv:Lr T w base v l) (hu:w.cell? ⟨G,0,none⟩=some r.v) (hn:l.length≤1000000) (hbase:base≤w.heap.size)
  (h:∀ v' w',Lr T w' base v' (l++[r])→w.grownBy w' v.ownBlock→(v'.ownBlock=v.ownBlock∨v'.ownBlock=some w.heap.size)→K (a.put o.dst v') w'):if Region.wanted o (yielded ops a.tmps)=true then Oper.wp P o a w K Q else E:=by
 have hw:Region.wanted o (yielded ops a.tmps)=true:=by simp [Region.wanted,hgd]
 rw [if_pos hw];obtain ⟨i0,hi,hz0,hz1,hz2⟩:=info_parts hP.info
 obtain ⟨v',w',hr,h2,h3,_,h4⟩:=run_append_own_at (P:=P) w base S o.type T i0 (sl0.v) 1 24 hP.under hi hz0 hz1 hz2 rfl (by decide) v l.length (cellsR l) hv ⟨G,0,none⟩ 1 1 (cellsR [r]) rfl (by
  intro j u hj
  match j,hj with
  | 0,hj=>simp [cellsR] at hj;subst hj;simpa [Addr.add] using hu
  | j+1,hj=>simp [cellsR] at hj) (oneR [r]) (by unfold maxLen;omega) (by omega) hbase
 unfold Oper.wp execOp;simp only [ho,resolve,invoke,builtin,Sem.run_bind,Sem.run_pure,Result.andThen_ok,List.map_toArray,List.map_cons,List.map_nil,hs,hx,hr];refine h v' w' ?_ h3 h4;unfold Lr;rw [List.length_append];unfold cellsR at *;rw [List.map_append];exact h2
theorem wp_letOne {P:Program} {o:Oper} {a:Act} {w:World} {K:Act→World→Prop} {Q:Exit→Act→World→Prop} (ty:TypeId) (x y:Operand) (ho:o.op = .store ty x y)
  (g:Nat) (hx:a.eval x = .pointer (some ⟨g,0,none⟩)) (v:Value) (hy:a.eval y=v) (hv:v.cells=#[v]) (hi:(P.info? ty).map (·.size)=some 1) (h1:v.oneCell'=true)
  (u:Value) (t:TypeId) (hB:Blk w g #[u] t) (hd:o.dst=none)
  (h:∀ W,Upd w W g #[v] t→K a W):o.wp P a w K Q:=by
 have hs:=run_storeVar_let (P:=P) (w:=w) (g:=g) (off:=0) (ty:=ty) (t:=t) (v:=v) (cells:=#[v]) (cs:=#[u]) hv (by simpa using hi) (by simpa using h1) hB (by simp);have hu:=upd_cells g t [v] 0 w #[u] hB;unfold Oper.wp execOp;simp only [ho,hx,hy,Instr.storeAt,Instr.sureAddr,Sem.run_bind,Sem.run_pure,Result.andThen_ok,hs];have:=h _ hu;have e:a.put o.dst undef=a:=by rw [hd];rfl
 rw [← e] at this;exact this
structure Box (w:World) (L:Nat) (V:Value) (sl:List Sli) (zs:List (List Int)) (W:World):Prop where
 blk:Blk W L #[V] 104
 row:Lr 25 W (L+1) V sl
 recs:Recs W V.ownBlock sl zs
 new:∀ i,i<sl.length→((sl.getD i sl0).n≤100000∧(sl.getD i sl0).n≤(sl.getD i sl0).c∧((sl.getD i sl0).a=none→(sl.getD i sl0).c=0))∧∀ x,(sl.getD i sl0).a=some x→L+1≤x.block
 bel:Below L w W
theorem Box.next {w:World} {L:Nat} {V:Value} {sl:List Sli} {zs:List (List Int)} {W W':World} (h:Box w L V sl zs W) (hb:Below W.heap.size W W'):Box w L V sl zs W':=
 ⟨h.blk.next hb,h.row.next hb,h.recs.below hb,h.new,h.bel.trans (hb.mono (Nat.le_of_lt h.blk.lt))⟩
theorem Box.far {w:World} {L:Nat} {V:Value} {sl:List Sli} {zs:List (List Int)} {W:World} (h:Box w L V sl zs W):some L≠V.ownBlock:=own_far h.row (Nat.lt_succ_self _)
theorem Box.kept {w:World} {L:Nat} {V:Value} {sl:List Sli} {zs:List (List Int)} {W W':World} (h:Box w L V sl zs W) (hg:W.grownBy W' V.ownBlock):Blk W' L #[V] 104:=by
 have h1:W.heap[L]?=_:=h.blk;show W'.heap[L]?=_;rw [hg.block L h.blk.lt h.far];exact h1
theorem lr_upd {T t:TypeId} {w W:World} {L:Nat} {cs:Array Value} {v:Value} {l:List Sli} (h:Lr T w (L+1) v l) (hU:Upd w W L cs t):Lr T W (L+1) v l:=by
 refine ⟨h.1,?_⟩;rcases h.2 with hn | ⟨g,cap,cur,hv,hg,hc,rest⟩
 ·exact .inl hn
 ·exact .inr ⟨g,cap,cur,hv,hg,hU.keep hc (by omega),rest⟩
theorem snoc_at (sl:List Sli) (r:Sli) (i:Nat) (hi:i<(sl++[r]).length):(i<sl.length∧(sl++[r]).getD i sl0=sl.getD i sl0)∨(i=sl.length∧(sl++[r]).getD i sl0=r):=by
 by_cases h1:i<sl.length
 ·exact .inl ⟨h1,by simp [List.getD,List.getElem?_append_left h1]⟩
 ·have hi':i=sl.length:=by simp at hi;omega
  exact .inr ⟨hi',by rw [hi'];simp [List.getD]⟩
theorem box_step {w U W3 W4:World} {L:Nat} {V v:Value} {sl:List Sli} {r:Sli} {zs:List (List Int)} {R:List Int} (hB:Box w L V sl zs U) {g off:Nat} (ha:r.a=some ⟨g,off,none⟩) (hg:g<U.heap.size) (hne:some g≠V.ownBlock) (hL:L+1≤g) (hrow:RowU U r.a r.n R) (hn:r.n≤100000∧r.n≤r.c∧(r.a=none→r.c=0))
  (h3:Lr 25 W3 (L+1) v (sl++[r])) (hgr:U.grownBy W3 V.ownBlock) (ho:v.ownBlock=V.ownBlock∨v.ownBlock=some U.heap.size) (hU:Upd W3 W4 L #[v] 104):Box w L v (sl++[r]) (zs++[R]) W4:=by
 have hnew:∀ i,i<(sl++[r]).length→(((sl++[r]).getD i sl0).n≤100000∧((sl++[r]).getD i sl0).n≤((sl++[r]).getD i sl0).c∧(((sl++[r]).getD i sl0).a=none→((sl++[r]).getD i sl0).c=0))∧∀ x,((sl++[r]).getD i sl0).a=some x→L+1≤x.block:=fun i hi=>by
  rcases snoc_at sl r i hi with ⟨h1,e⟩ | ⟨_,e⟩
  ·rw [e];exact hB.new i h1
  ·rw [e];refine ⟨hn,fun x hx=>?_⟩;rw [ha] at hx;cases hx;exact hL
 have hrc:Recs W3 v.ownBlock (sl++[r]) (zs++[R]):=(hB.recs.snoc (s:=r) (z:=R) ⟨⟨g,off,ha,hg,hne⟩,hrow⟩).grown hgr ho;refine ⟨hU.blk,lr_upd h3 hU,⟨hrc.1,fun i hi=>?_⟩,hnew,?_⟩
 ·obtain ⟨⟨b,o,e1,e2,e3⟩,e4⟩:=hrc.2 i hi;have hLb:=(hnew i hi).2 _ e1;refine ⟨⟨b,o,e1,by rw [hU.size];exact e2,e3⟩,e4.1,?_⟩;rcases e4.2 with h0 | ⟨b',o',e5,hc⟩
  ·exact .inl h0
  ·rw [e1] at e5;cases e5;exact .inr ⟨b,o,e1,fun j hj=>(hU.cell ⟨b,o+j,none⟩ (by show b≠L;simp only at hLb;omega) rfl).trans (hc j hj)⟩
 ·refine hU.bel _ _ (Nat.le_refl _) ?_;exact own_bel hB.row hgr hB.bel (Nat.le_succ _) (Nat.le_of_lt hB.blk.lt)
theorem Box.reads {w:World} {L:Nat} {V:Value} {sl:List Sli} {zs:List (List Int)} {W:World} (h:Box w L V sl zs W):∃ a cap,V = .slice a zs.length cap∧ReadsF W L a zs.length zs:=by
 obtain ⟨a,cap,hv⟩:=h.row.len;have hl:=h.recs.1;refine ⟨a,cap,by rw [← hl];exact hv,rfl,?_⟩;by_cases h0:zs.length=0
 ·exact .inl h0
 ·obtain ⟨g,cap2,hv2,hge,lg,_,hc⟩:=h.row.row (by rw [hl];omega);rw [hv] at hv2;injection hv2 with ea _ _
  refine .inr ⟨g,0,ea,by omega,lg,fun i hi=>?_⟩;have hi':i<sl.length:=by rw [hl];exact hi
  refine ⟨sl.getD i sl0,by rw [Nat.zero_add];exact hc i hi',(h.recs.2 i hi').2,(h.new i hi').1,fun x hx=>?_⟩;have:=(h.new i hi').2 x hx;omega
theorem app_yes {c:List Int} {p:Nat} {r:List Int} (h:p+r.length+1<c.length):putW p r r.length++[⟨(p:Int)+(r.length:Int)+1,0⟩]++[⟨(p:Int),(r.length:Int)⟩]=appW c p r:=by
 unfold appW zeroW;rw [if_pos h,List.append_assoc,show ((p+r.length+1:Nat):Int)=(p:Int)+(r.length:Int)+1 by omega]
theorem app_no {c:List Int} {p:Nat} {r:List Int} (h:¬ p+r.length+1<c.length):putW p r r.length++[⟨(p:Int),(r.length:Int)⟩]=appW c p r:=by
 unfold appW zeroW;rw [if_neg h,List.nil_append]
end disk
namespace acc
open Go.ChangeShapes Go.WideShapes Go.ChangeAt Go.RowKit Go.Deep
theorem open_deal {H:Type} {enc:TypeId × Value→H} {W:World} {r:Reach} {b0 b1:Nat} {held:Bool} {v:Value} {d:DataW H} {ps:List MemPlace}
  (hval:Value.okWide Tryz.prog W r b0 35 v) (h:DataW.Trod enc Tryz.prog W b1 (fun _=>true) held 35 v d ps) (hs:∀ n∈d.weights Tryz.prog 35,n≤reachBytes) :
  ∃ (x:Tm) (p:Option Addr) (len cap:Nat),v=x.v p len cap∧TCame W x p len cap:=by
 have hu:=Tryz.underlying35;have hc:Tryz.prog.cellsOf 35=5:=by kernel_rfl
 have ci:Tryz.prog.cellsOf 3=1:=by kernel_rfl
 have csl:Tryz.prog.cellsOf 33=1:=by kernel_rfl
 obtain ⟨cs,rfl,hsz⟩:=okWide_struct hu hval;rw [hc] at hsz
 obtain ⟨c0,c1,c2,c3,c4,rfl⟩:∃ c0 c1 c2 c3 c4,cs=#[c0,c1,c2,c3,c4]:=by
  cases cs with
  | mk l=>match l,hsz with
   | [c0,c1,c2,c3,c4],_=>exact ⟨c0,c1,c2,c3,c4,rfl⟩
 obtain ⟨fuel,hf⟩:=h;obtain ⟨xs,n,hx,hd,_,hlen,hg⟩:=DataW.trod_struct hu hf
 match xs,hlen with
 | [y0,y1,y2,y3,y4],_=>
  have g0:=hg 0 _ rfl;have g1:=hg 1 _ rfl;have g2:=hg 2 _ rfl;have g3:=hg 3 _ rfl;have g4:=hg 4 _ rfl;simp [Value.cells,ci,csl] at g0 g1 g2 g3 g4;obtain ⟨x1,e1,-,w1⟩:=DataW.trod_int Tryz.underlying3 g1;obtain ⟨x2,e2,-,w2⟩:=DataW.trod_int Tryz.underlying3 g2;obtain ⟨x3,e3,-,w3⟩:=DataW.trod_int Tryz.underlying3 g3;obtain ⟨x4,e4,-,w4⟩:=DataW.trod_int Tryz.underlying3 g4;simp at e1 e2 e3 e4;subst e1 e2 e3 e4;rcases Deep.open_slice_pairs Tryz.underlying33 Tryz.underlying196 (by kernel_rfl) rfl rfl (by kernel_rfl) (by kernel_rfl) g0 with ⟨hcs,_⟩ | ⟨x,l,c,mm,fu,V0,V1,D0,D1,P0,P1,hcs,_,hl,hm,hmm,hy,hall⟩
  ·simp at hcs;subst hcs;exact ⟨⟨[],x1,x2,x3,x4⟩,none,0,0,rfl,⟨tar.RowD.nil _ _,(fun _=>rfl),Nat.le_refl _,by omega,(fun x hx=>by cases hx)⟩,⟨w1,w2,w3,w4⟩⟩
  ·simp at hcs;subst hcs;simp only [if_true] at hmm;subst hmm
   have hr:=tar.rowD_of (len:=l) (w:=W) (a:=x) (m:=mm) (by omega) (fun j hj=>by
    obtain ⟨k0,k1,t0,t1⟩:=hall j hj;obtain ⟨z0,hv0,_,hw0⟩:=DataW.trod_int Tryz.underlying3 t0;obtain ⟨z1,hv1,_,hw1⟩:=DataW.trod_int Tryz.underlying3 t1;simp only [List.cons.injEq,and_true] at hv0 hv1;rw [hv0] at k0;rw [hv1] at k1
    exact ⟨z0,z1,k0,k1,hw0,hw1⟩)
   obtain ⟨zs,r1,r2⟩:=hr;subst hy;obtain ⟨hd1,_⟩:=Prod.mk.inj hd;subst hd1;have h1:=hs ((l+(mm - l))*Tryz.prog.bytesOf 196) (by simp [DataW.weights,hu,DataW.weightsEach,Tryz.underlying33]);rw [show Tryz.prog.bytesOf 196=16 from by kernel_rfl] at h1;simp only [reachBytes] at h1;exact ⟨⟨zs,x1,x2,x3,x4⟩,some x,l,mm,rfl,⟨r1,(fun h=>by cases h),hl,by omega,r2⟩,⟨w1,w2,w3,w4⟩⟩
end acc
end Go.Proofs.YtnpblpbohcegoaaGreatDoor
