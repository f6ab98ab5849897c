import Derived.Test.YtnpblpbohcegoaaGreatDoorVVRry30
set_option linter.unusedVariables false
set_option linter.unusedSimpArgs false
set_option maxHeartbeats 4000000
set_option maxRecDepth 100000
namespace Go.Proofs.YtnpblpbohcegoaaGreatDoor
namespace tar
open check (pick picked_any pick_nonneg pick_lt)
open Go.RowKit
theorem stepT2:PairT Tryz.prog 198 22:=⟨by kernel_rfl,Tryz.underlying22⟩
def GaveT (w:World) (e:Ending) (w':World):Prop:=∃ v ls,e = .returned v∧Right ls∧Ld 198 w' w.heap.size v ls∧Below w.heap.size w w'
theorem stepped_any (a:Option Addr) (len cap:Nat) (rs:List Du) (w:World) (h:Came w a len cap rs):Calls Tryz.prog 60 #[.slice a len cap] w fun e w'=>GaveT w e w':=by
 have HM:Hid (Came w a len cap rs):=h;have hlm:len≤9223372036854775807:=by have:=h.bytes;omega
 clear h;go_enter Tryz.func60,Tryz.ntmps60;go_wp2_with fail;go_loopw [3,4,5] (fun u v z wr=>∃ (k:Nat) (V:Value) (Z:List Du) (up:Int),k≤len∧k≤7∧z=zI (k:Int)∧v=zI up∧V=u∧Grow Z k up∧Ld 198 wr w.heap.size V Z∧Below w.heap.size w wr) (fun _ _ z _=>7 - (intOf z).toNat)
 case atStart=>exact ⟨0,_,[],0,Nat.zero_le _,by decide,rfl,rfl,rfl,Grow.zero,Ld.zero _ _ _,Below.refl _ _⟩
 case round=>
  obtain ⟨k,V,Z,up,hk,hk7,rfl,rfl,hV,hg,hZ,hb⟩:=hrel;subst hV;have HB:Hid (Below w.heap.size w wr):=hb;have HZ:Hid (Ld 198 wr w.heap.size V Z):=hZ;have HG:Hid (Grow Z k up):=hg;have hu0:=hg.low;have hu1:=hg.top;have hzl:Z.length≤1000000:=by rw [hg.len];omega
  clear hZ hg;by_cases hlt:k<len∧k<7
  ·obtain ⟨hl1,hl2⟩:=hlt;have hd1:decide ((k:Int)<(len:Int))=true:=by simp;omega
   have hd2:decide ((k:Int)<7)=true:=by simp;omega
   obtain ⟨b,off,rfl,hbl,hc⟩:=HM.o.row.at (by omega)
   have hw1:=(HM.o.wf (rs.getD k du0) (by
    have:k<rs.length:=by rw [HM.o.row.1];exact hl1
    simp [List.getD,List.getElem?_eq_getElem this]))
   have c0:wr.cell? ⟨b,off+k*2,none⟩=some (zI (rs.getD k du0).a):=(hb.cell (p:=⟨b,off+k*2,none⟩) hbl).trans (hc k hl1).1;have c1:wr.cell? ⟨b,off+k*2+1,none⟩=some (zI (rs.getD k du0).b):=(hb.cell (p:=⟨b,off+k*2+1,none⟩) hbl).trans (hc k hl1).2;have HP1:Hid (∀ W,Calls Tryz.prog 18 #[zI (rs.getD k du0).a,zI 1000000] W fun e w'=>e = .returned (zI (pick (rs.getD k du0).a 1000000))∧w'=W):=fun W=>picked_any _ _ W hw1.1 (by decide) (by decide);have HP2:Hid (∀ W,Calls Tryz.prog 18 #[zI (rs.getD k du0).b,zI 100000] W fun e w'=>e = .returned (zI (pick (rs.getD k du0).b 100000))∧w'=W):=fun W=>picked_any _ _ W hw1.2 (by decide) (by decide);have q1:=pick_nonneg (rs.getD k du0).a 1000000 (by decide);have q2:=pick_lt (rs.getD k du0).a 1000000 (by decide);have q3:=pick_nonneg (rs.getD k du0).b 100000 (by decide);have q4:=pick_lt (rs.getD k du0).b 100000 (by decide);clear hc hb hw1;generalize pick (rs.getD k du0).a 1000000=d at *;generalize pick (rs.getD k du0).b 100000=p at *;generalize (rs.getD k du0).a=x at *;generalize (rs.getD k du0).b=y at *;have HGN:Hid (Grow (Z++[⟨up+(1+d),1+p⟩]) (k+1) (up+(1+d))):=HG.o.step (by omega) (by omega) (by omega) (by omega);go_wp2_with fail;refine (HP1.o _).mono ?_;rintro e w2 ⟨rfl,hw2⟩;subst hw2;go_wp2_with fail;refine (HP2.o _).mono ?_;rintro e w2 ⟨rfl,hw2⟩;subst hw2;have HBA:Hid (Below w.heap.size w (w2.alloc (.cells #[zI (up+(1+d)),zI (1+p)] 198))):=HB.o.alloc HB.o.size _;have HZA:Hid (Ld 198 (w2.alloc (.cells #[zI (up+(1+d)),zI (1+p)] 198)) w.heap.size V Z):=HZ.o.alloc _;have HCA:Hid ((w2.alloc (.cells #[zI (up+(1+d)),zI (1+p)] 198)).cell? ⟨w2.heap.size,0,none⟩=some (zI (up+(1+d)))∧(w2.alloc (.cells #[zI (up+(1+d)),zI (1+p)] 198)).cell? ⟨w2.heap.size,1,none⟩=some (zI (1+p))):=⟨(Blk.new w2 _ _).cell 0,(Blk.new w2 _ _).cell 1⟩
   go_wp2_with (first
    | (at_builtin;refine wp_pair stepT2 rfl _ _ rfl w.heap.size w2.heap.size V Z ⟨up+(1+d),1+p⟩ rfl rfl HZA.o HCA.o hzl HBA.o.size ?_)
    | fail)
   intro v3 w3 h3 hg3;have HB3:Hid (Below w.heap.size w w3):=own_bel HZA.o hg3 HBA.o (Nat.le_refl _) HBA.o.size;have H3:Hid (Ld 198 w3 w.heap.size v3 (Z++[⟨up+(1+d),1+p⟩])):=h3;clear h3 hg3 HZA HCA HBA HZ c0 c1;go_wp2_with fail;go_roundw
   case rel=>exact ⟨k+1,v3,_,_,by omega,by omega,by go_num,rfl,by first | rfl | trivial,HGN.o,H3.o,HB3.o⟩
   case measure=>simp [intOf];omega
  ·have HRT:Hid (∀ p,1≤p→p≤100000→Right (Z++[⟨10000000,p⟩])):=fun p p1 p2=>HG.o.right hk7 p1 p2;have hq:Int.tmod up 100000=up % 100000:=Int.tmod_eq_emod_of_nonneg hu0;have r0:0≤up % 100000:=by omega
   have r1:up % 100000<100000:=by omega
   generalize up % 100000=r at *;have HBA:Hid (Below w.heap.size w (wr.alloc (.cells #[zI 10000000,zI (1+r)] 198))):=HB.o.alloc HB.o.size _;have HZA:Hid (Ld 198 (wr.alloc (.cells #[zI 10000000,zI (1+r)] 198)) w.heap.size V Z):=HZ.o.alloc _;have HCA:Hid ((wr.alloc (.cells #[zI 10000000,zI (1+r)] 198)).cell? ⟨wr.heap.size,0,none⟩=some (zI 10000000)∧(wr.alloc (.cells #[zI 10000000,zI (1+r)] 198)).cell? ⟨wr.heap.size,1,none⟩=some (zI (1+r))):=⟨(Blk.new wr _ _).cell 0,(Blk.new wr _ _).cell 1⟩
   have HRR:Hid (Right (Z++[⟨10000000,1+r⟩])):=HRT.o _ (by omega) (by omega);clear hb HRT;by_cases hl1:k<len
   ·have hd1:decide ((k:Int)<(len:Int))=true:=by simp;omega
    obtain rfl:k=7:=by omega
    clear hlt hk7
    go_wp2_with (first
     | (at_builtin;refine wp_pair stepT2 rfl _ _ rfl w.heap.size wr.heap.size V Z ⟨10000000,1+r⟩ rfl rfl HZA.o HCA.o hzl HBA.o.size ?_)
     | fail)
    intro v3 w3 h3 hg3;have HB3:Hid (Below w.heap.size w w3):=own_bel HZA.o hg3 HBA.o (Nat.le_refl _) HBA.o.size;have H3:Hid (Ld 198 w3 w.heap.size v3 (Z++[⟨10000000,1+r⟩])):=h3;clear h3 hg3 HZA HCA HBA HZ;go_wp2_with fail;go_ret;exact ⟨v3,_,rfl,HRR.o,H3.o,HB3.o⟩
   ·have hd1:decide ((k:Int)<(len:Int))=false:=by simp;omega
    clear hlt
    go_wp2_with (first
     | (at_builtin;refine wp_pair stepT2 rfl _ _ rfl w.heap.size wr.heap.size V Z ⟨10000000,1+r⟩ rfl rfl HZA.o HCA.o hzl HBA.o.size ?_)
     | fail)
    intro v3 w3 h3 hg3;have HB3:Hid (Below w.heap.size w w3):=own_bel HZA.o hg3 HBA.o (Nat.le_refl _) HBA.o.size;have H3:Hid (Ld 198 w3 w.heap.size v3 (Z++[⟨10000000,1+r⟩])):=h3;clear h3 hg3 HZA HCA HBA HZ;go_wp2_with fail;go_ret;exact ⟨v3,_,rfl,HRR.o,H3.o,HB3.o⟩
end tar
namespace vnd
open book (Ev ev0 EMay evL evOf EncIs DecIs Cm cm0 So so0 BookIs FirstAt NoneAt Tells soldOf StepIs HapIs)
open acc (Ac Tm Bi OweIs)
open ora (Pr IssueIs)
open cell (Wr wrt)
open rcp (Rc rc0)
theorem cha_owe {t:Tm} {c:List Int} {me ow bp:Int} {ls:List Wr} {bk:List Cm} (hl:LoadIs t c bk 0) (h:ChaIs t c me ow bp ls 0) :
  ∃ k b,FirstAt bk me k∧OweIs (bk.getD k cm0).a ⟨ow,bp⟩ b 0∧EMay (chaE me ow bp)∧StepIs t bk (chaE me ow bp) (bk.set k ⟨b,(bk.getD k cm0).so⟩) 0∧KeepIs c (chaE me ow bp) ls 0:=by
 obtain ⟨bk',g,hl',h⟩:=h;obtain ⟨rfl,rfl⟩:=hl'.one hl;rcases h with ⟨p,_⟩ | ⟨_,_,_,q⟩ | ⟨_,k,b,x,hf,ho,⟨p,_,q⟩ | ⟨rfl,hke⟩⟩
 ·exact absurd rfl p
 ·cases q
 ·exact absurd q.symm p
 ·have hm:(0≤me∧me≤49)∧((1≤ow∧ow≤1000000000)∧0≤bp∧bp≤10000):=by
   rcases ho with ⟨_,_,q⟩ | ⟨_,_,_,q⟩ | ⟨_,_,_,_,q⟩ | ⟨ha,hq,_,_,_⟩
   ·cases q
   ·cases q
   ·cases q
   ·exact ⟨by rw [← hf.2.1];exact ha.2.1,hq⟩
  have hev:EMay (chaE me ow bp):=⟨hm.1,.inr (.inl ⟨rfl,rfl,rfl,rfl,rfl,rfl,rfl,rfl,rfl,rfl,hm.2⟩)⟩
  exact ⟨k,b,hf,ho,hev,.inr (.inr (.inr (.inr ⟨hev,by show (5:Int)≠1;omega,k,_,hf,.inl ⟨rfl,b,ho,fun _=>rfl⟩,fun _=>rfl⟩))),hke⟩
open ora (pr0 At No)
open token (Tok fmtL)
theorem issue_again {l:List Pr} {m r b d:Int} {ls:List Pr} {x:Int} (h:IssueIs l m r b d ls x 0) {d':Int} (hd:0≤d'∧d'≤65535):IssueIs ls m r b d' ls x 0:=by
 rcases h with ⟨_,_,_,q⟩ | ⟨_,_,_,_,q⟩ | ⟨hm,hp,hi,rfl,_⟩ | ⟨_,_,_,_,_,_,q⟩ | ⟨hm,hp,hn,hl,rfl,rfl,_⟩
 ·cases q
 ·cases q
 ·exact .inr (.inr (.inl ⟨hm,⟨hp.1,hp.2.1,hp.2.2.1,hd⟩,hi,rfl,rfl⟩))
 ·cases q
 ·refine .inr (.inr (.inl ⟨hm.app hp hn hl,⟨hp.1,hp.2.1,hp.2.2.1,hd⟩,⟨l.length,hn.app ⟨rfl,rfl,rfl⟩,?_⟩,rfl,rfl⟩));rw [ora.getD_app,if_neg (Nat.lt_irrefl _),if_pos rfl]
theorem app_same {c c2:List Int} (h:c.length=c2.length) (e:Nat) (v v2:Ev):(disk.appW c e (evL v)).length=(disk.appW c2 e (evL v2)).length:=by
 rw [disk.app_len,disk.app_len,book.evL_len,book.evL_len,h]
theorem tok_again {kd:Int} {t:Tm} {c c2:List Int} {n:Nat} {l:List Ev} {bk:List Cm} {o:List Pr} {me te mo dr dr2:Int} {ls ls2:List Wr} {o' o2:List Pr} {r r2:Rc} {f2:Int} (hk:Asked kd mo) (h:Shop t c n l bk) (h2:Shop t c2 n l bk) (hn:l.length<120) (hf:14*l.length+13<n)
  (hs:TokIs kd t c o me te mo dr ls o' r 0) (hs2:TokIs kd t c2 o' me te mo dr2 ls2 o2 r2 f2) (hd:0≤dr2∧dr2≤65535):f2=0∧o2=o'∧r2=r∧ls2.length=ls.length:=by
 obtain ⟨k0,b0,l0,tg0,hf0,_,hi0,hev0,_,hke0,hr0⟩:=tok_step hk h.load hs;obtain ⟨bk1,g1,hl1,hh1⟩:=hs;obtain ⟨rfl,rfl⟩:=hl1.one h.load;obtain ⟨bk2,g2,hl2,hh2⟩:=hs2;obtain ⟨rfl,rfl⟩:=hl2.one h2.load;rcases hh1 with ⟨p,_⟩ | ⟨_,_,p⟩ | ⟨_,k,b,lb,x,hfi,hte,⟨p,q⟩ | ⟨hx,htg⟩⟩
 ·exact absurd rfl p
 ·exact absurd p.2.2.2 (by decide)
 ·exact absurd q.2.2.2.symm p
 ·subst hx;rcases hh2 with ⟨p,_⟩ | ⟨_,q,p⟩ | ⟨_,k2,b2,lb2,x2,hfi2,hte2,hh2⟩
  ·exact absurd rfl p
  ·exact absurd q hfi.some
  ·obtain rfl:=hfi.one hfi2;obtain ⟨rfl,rfl,rfl⟩:=hte.one hte2;rcases hh2 with ⟨p,_⟩ | ⟨_,o3,tg3,g3,hi3,hh3⟩
   ·exact absurd rfl p
   ·obtain ⟨o4,tg4,g4,hi4,hh4⟩:=htg;rcases hh4 with ⟨p,q⟩ | ⟨rfl,l4,g5,hke4,⟨p,q⟩ | ⟨rfl,rfl,rfl,rfl,_⟩⟩
    ·exact absurd q.2.2.2.symm p
    ·exact absurd q.2.2.2.symm p
    ·obtain ⟨rfl,rfl,rfl⟩:=(issue_again hi4 hd).one hi3
     have hev:EMay (tokE kd me mo lb tg4):=by
      rw [hr0.symm] at *;exact (tells_ev hk hte hfi.2.1 (tag_bd hi4)).1
     rcases hh3 with ⟨p,_⟩ | ⟨_,l5,g6,hke5,hh5⟩
     ·exact absurd rfl p
     ·obtain ⟨rfl,rfl⟩:=keep_tape h2.tape h2.may hev hn (by rw [h2.len];exact hf) hke5;obtain ⟨rfl,_⟩:=keep_tape h.tape h.may hev hn (by rw [h.len];exact hf) hke4;rcases hh5 with ⟨p,_⟩ | ⟨_,rfl,rfl,rfl,rfl⟩
      ·exact absurd rfl p
      ·exact ⟨rfl,rfl,rfl,app_same (by rw [h.len,h2.len]) _ _ _⟩
theorem cha_again {t:Tm} {c c2:List Int} {n:Nat} {l:List Ev} {bk:List Cm} {me ow bp:Int} {ls ls2:List Wr} {f2:Int} (h:Shop t c n l bk) (h2:Shop t c2 n l bk) (hn:l.length<120) (hf:14*l.length+13<n)
  (hs:ChaIs t c me ow bp ls 0) (hs2:ChaIs t c2 me ow bp ls2 f2):f2=0∧ls2.length=ls.length:=by
 obtain ⟨k,b,hfi,ho,hev,_,hke⟩:=cha_owe h.load hs;obtain ⟨bk2,g2,hl2,hh2⟩:=hs2;obtain ⟨rfl,rfl⟩:=hl2.one h2.load;rcases hh2 with ⟨p,_⟩ | ⟨_,q,_⟩ | ⟨_,k2,b2,x2,hfi2,ho2,hh2⟩
 ·exact absurd rfl p
 ·exact absurd q hfi.some
 ·obtain rfl:=hfi.one hfi2;obtain ⟨rfl,rfl⟩:=ho.one ho2;rcases hh2 with ⟨p,_⟩ | ⟨_,hke2⟩
  ·exact absurd rfl p
  ·obtain ⟨rfl,rfl⟩:=keep_tape h2.tape h2.may hev hn (by rw [h2.len];exact hf) hke2;obtain ⟨rfl,_⟩:=keep_tape h.tape h.may hev hn (by rw [h.len];exact hf) hke;exact ⟨rfl,app_same (by rw [h.len,h2.len]) _ _ _⟩
def Od.draw (x:Od) (d:Int):Od:=⟨x.k,x.m,x.a,x.b,d⟩
theorem serve_again {t:Tm} {c c2:List Int} {n:Nat} {l:List Ev} {bk:List Cm} {o:List Pr} {x:Od} {d2:Int} {ls ls2:List Wr} {o' o2:List Pr} {r r2:Rc} {f2:Int} (h:Shop t c n l bk) (h2:Shop t c2 n l bk) (hn:l.length<120) (hf:14*l.length+13<n)
  (hs:ServedIs t c o x ls o' r 0) (hs2:ServedIs t c2 o' (x.draw d2) ls2 o2 r2 f2):f2=0∧o2=o'∧r2=r∧ls2.length=ls.length:=by
 have hd:0≤check.pick (x.draw d2).d 65536∧check.pick (x.draw d2).d 65536≤65535:=by
  have h1:=check.pick_nonneg (x.draw d2).d 65536 (by decide);have h2:=check.pick_lt (x.draw d2).d 65536 (by decide);omega
 rcases hs with ⟨k1,a1,rfl,rfl⟩ | ⟨k1,a1⟩ | ⟨k1,a1⟩ | ⟨k1,a1⟩ <;> rcases hs2 with ⟨k2,a2,rfl,rfl⟩ | ⟨k2,a2⟩ | ⟨k2,a2⟩ | ⟨k2,a2⟩ <;> simp only [Od.draw] at k2 a2 hd <;> first | (exfalso;omega) | skip
 ·obtain ⟨h1,h2⟩:=cha_again h h2 hn hf a1 a2;exact ⟨h1,rfl,rfl,h2⟩
 ·exact tok_again (.inr (.inl rfl)) h h2 hn hf a1 a2 hd
 ·exact tok_again (.inr (.inr ⟨rfl,rfl⟩)) h h2 hn hf a1 a2 hd
 ·exact tok_again (.inl rfl) h h2 hn hf a1 a2 hd
theorem so_old (A:List So) (z:So) (j:Nat) (hj:j<A.length):(A++[z]).getD j so0=A.getD j so0:=by simp [List.getD,List.getElem?_append_left hj]
theorem so_new (A:List So) (z:So):(A++[z]).getD A.length so0=z:=by simp [List.getD]
theorem print_is {kd:Int} {t:Tm} {bk:List Cm} {me mo:Int} {k:Nat} {b:Ac} {lb:Bi} {tg:Int} {c2:List Int} {s:List UInt8} {f:Int} (hfi:FirstAt bk me k) (hte:Tells t (bk.getD k cm0) (tokE kd me mo lb tg) b lb 0) (hnu:Num (bk.getD k cm0))
  (hl:LoadIs t c2 (bk.set k ⟨b,(bk.getD k cm0).so++[soldOf (bk.getD k cm0) (tokE kd me mo lb tg)]⟩) 0) (hr:RepIsP t c2 me lb.id s f):f=0∧s=fmtL (97*(tokB kd (bk.getD k cm0).a.rv lb tg).num):=by
 obtain ⟨hb1,_,_,hid⟩:=tells_same hte;have hat:∀ i,((bk.set k ⟨b,(bk.getD k cm0).so++[soldOf (bk.getD k cm0) (tokE kd me mo lb tg)]⟩).getD i cm0)=if i=k then ⟨b,(bk.getD k cm0).so++[soldOf (bk.getD k cm0) (tokE kd me mo lb tg)]⟩ else bk.getD i cm0:=fun i=>getD_setC _ _ _ _ hfi.1
 have hfi2:FirstAt (bk.set k ⟨b,(bk.getD k cm0).so++[soldOf (bk.getD k cm0) (tokE kd me mo lb tg)]⟩) me k:=by
  refine ⟨by rw [List.length_set];exact hfi.1,?_,fun j hj=>?_⟩
  ·rw [hat,if_pos rfl];show b.me=me;rw [hb1];exact hfi.2.1
  ·rw [hat,if_neg (by omega)];exact hfi.2.2 j hj
 obtain ⟨bk2,g,hl2,hh⟩:=hr;obtain ⟨rfl,rfl⟩:=hl2.one hl;rcases hh with ⟨p,_⟩ | ⟨_,q,_⟩ | ⟨_,k2,hfi3,hh⟩
 ·exact absurd rfl p
 ·exact absurd q hfi2.some
 ·obtain rfl:=hfi2.one hfi3;rw [hat,if_pos rfl] at hh;simp only [] at hh;have hso:(soldOf (bk.getD k cm0) (tokE kd me mo lb tg)).id=lb.id:=by unfold soldOf;split <;> rfl
  have hold:∀ j,j<(bk.getD k cm0).so.length→(((bk.getD k cm0).so++[soldOf (bk.getD k cm0) (tokE kd me mo lb tg)]).getD j so0).id≠lb.id:=fun j hj=>by
   have e:((bk.getD k cm0).so++[soldOf (bk.getD k cm0) (tokE kd me mo lb tg)]).getD j so0=(bk.getD k cm0).so.getD j so0:=so_old _ _ _ hj;rw [e,(hnu.2 j hj).1,hid,hnu.1];omega
  have hnew:((bk.getD k cm0).so++[soldOf (bk.getD k cm0) (tokE kd me mo lb tg)]).getD (bk.getD k cm0).so.length so0=soldOf (bk.getD k cm0) (tokE kd me mo lb tg):=so_new _ _;rcases hh with ⟨q,_⟩ | ⟨j,hj,hji,hjf,rfl,rfl⟩
  ·exact absurd (by rw [hnew];exact hso) (q (bk.getD k cm0).so.length (by simp))
  ·have hjl:j=(bk.getD k cm0).so.length:=by
    rw [List.length_append] at hj;simp only [List.length_cons,List.length_nil] at hj;by_cases h1:j<(bk.getD k cm0).so.length
    ·exact absurd hji (hold j h1)
    ·omega
   subst hjl;refine ⟨rfl,?_⟩;rw [hnew];unfold soldOf tokB;by_cases h4:kd=4
   ·rw [if_pos (show (tokE kd me mo lb tg).kd=4 from h4),if_pos h4];rfl
   ·rw [if_neg (show ¬ (tokE kd me mo lb tg).kd=4 from h4),if_neg h4];rfl
theorem serve_print {t:Tm} {c:List Int} {n:Nat} {l:List Ev} {bk:List Cm} {o:List Pr} {x:Od} {ls:List Wr} {o':List Pr} {r:Rc} (h:Shop t c n l bk) (hn:l.length<120) (hf:14*l.length+13<n) (hs:ServedIs t c o x ls o' r 0):r=rc0∨∀ s f,RepIsP t (wrt c ls) r.me r.id s f→f=0∧s=r.tk:=by
 have go:∀ kd me te mo dr,Asked kd mo→TokIs kd t c o me te mo dr ls o' r 0→∀ s f,RepIsP t (wrt c ls) r.me r.id s f→f=0∧s=r.tk:=fun kd me te mo dr hk hc s f hr=>by
  obtain ⟨k,b,lb,tg,hfi,hte,_,hv,hst,hke,rfl⟩:=tok_step hk h.load hc;have hkb:=hfi.1
  have hin:bk.getD k cm0∈bk:=by
   have q:bk.getD k cm0=bk[k]:=by simp [List.getD,List.getElem?_eq_getElem hkb]
   rw [q];exact List.getElem_mem _
  exact print_is hfi hte (book_num h.book _ hin) (stepped h hn hf hv hst hke).whole.load hr
 rcases hs with ⟨_,_,_,rfl⟩ | ⟨_,hc⟩ | ⟨_,hc⟩ | ⟨_,hc⟩
 ·exact .inl rfl
 ·exact .inr (go _ _ _ _ _ (.inr (.inl rfl)) hc)
 ·exact .inr (go _ _ _ _ _ (.inr (.inr ⟨rfl,rfl⟩)) hc)
 ·exact .inr (go _ _ _ _ _ (.inl rfl) hc)
end vnd
namespace disk
open Go.RowKit cell
def JR (w:World) (c:List Int) (k:Nat) (W:World):Prop:=∃ V sl,Box w w.heap.size V sl (itD c k).1 W
theorem kreplay:KReplay:=by
 intro w a n cap c h hnil hcap hby hw;have H0:JR w c 0 (w.alloc (.cells #[zS] 104)):=⟨zS,[],Blk.new _ _ _,Lr.zero _ _ _,Recs.nil _ _,(fun i hi=>by cases hi),(Below.refl _ _).alloc (Nat.le_refl _) _⟩
 have HE:Hid (Calls Tryz.prog 62 #[.slice a n cap,.func (.func 63) #[] #[.pointer (some ⟨w.heap.size,0,none⟩)]] (w.alloc (.cells #[zS] 104)) fun e w'=>EPost (JR w c) c e w'):=by
  refine each_any 63 #[.pointer (some ⟨w.heap.size,0,none⟩)] (JR w c) a n cap c _ (fun k W hj=>?_) H0 hcap hw (fun _ _=>by kernel_rfl) ?_
  ·obtain ⟨V,sl,hb⟩:=hj;exact h.below hb.bel
  ·intro k p m b o W hj hp hit hr h1 h2 h3;obtain ⟨V,sl,hb⟩:=hj;have hs:sl.length≤1000000:=by have:=hb.recs.1;have:=it_count c k;omega
   refine (put_record w w.heap.size V sl _ (recAt c p) b o m W hb hr h1 h2 hs).mono ?_;rintro e w' ⟨rfl,V',sl',hb'⟩;refine ⟨rfl,V',sl',?_⟩;rw [hit];exact hb'
 clear H0 h hnil hcap hby hw;go_enter Tryz.func35,Tryz.ntmps35;go_wp2_with fail;refine HE.o.mono ?_;rintro e w1 ⟨x,f,k,rfl,⟨V,sl,hb⟩,hi⟩;have HB:Hid (Box w w.heap.size V sl (itD c k).1 w1):=hb;have HI:Hid ((¬ May c∧x=0∧f=1)∨(May c∧lenAt c (repD c).2<0∧x=0∧f=3)∨(May c∧lenAt c (repD c).2=0∧repD c=itD c k∧x=((repD c).2:Int)∧f=0)):=hi;clear hb hi HE;by_cases hf:f=0
 ·have HR:Hid (RepIs c (itD c k).1 x 0):=by
   rcases HI.o with ⟨_,_,e⟩ | ⟨_,_,_,e⟩ | ⟨q1,q2,q3,q4,_⟩
   ·rw [hf] at e;exact absurd e (by decide)
   ·rw [hf] at e;exact absurd e (by decide)
   ·exact .inr (.inr ⟨q1,q2,by rw [q3],q4,rfl⟩)
  have q0:w1.cell? ⟨w.heap.size,0,none⟩=some V:=HB.o.blk.cell 0;obtain ⟨va,vc,hV,hrd⟩:=HB.o.reads;have HRD:Hid (ReadsF w1 w.heap.size va (itD c k).1.length (itD c k).1):=hrd;have HBL:Hid (Below w.heap.size w w1):=HB.o.bel;subst hf;subst hV;clear hrd HB HI;generalize (itD c k).1=zs at *;have HFW:Hid (zs.length≤100000):=Nat.le_trans (rep_few HR.o).1 (by decide);generalize hzl:zs.length=zl at *;clear hzl;go_wp2_with fail;go_ret3;exact ⟨va,_,vc,zs,x,0,rfl,HRD.o,HFW.o,HR.o,HBL.o⟩
 ·have HR:Hid (RepIs c [] 0 f):=by
   rcases HI.o with ⟨q1,_,e⟩ | ⟨q1,q2,_,e⟩ | ⟨_,_,_,_,e⟩
   ·exact .inl ⟨q1,rfl,rfl,e⟩
   ·exact .inr (.inl ⟨q1,q2,rfl,rfl,e⟩)
   ·exact absurd e hf
  have HBL:Hid (Below w.heap.size w w1):=HB.o.bel;have hne:(f != 0)=true:=by simpa using hf
  clear HB HI hf;go_wp2_with fail;go_ret3;exact ⟨none,0,0,[],0,f,rfl,⟨rfl,.inl rfl⟩,Nat.zero_le _,HR.o,HBL.o⟩
end disk
namespace vnd
open disk (RepIs AppIs)
open book (Ev ev0 EMay evL evOf EncIs DecIs Cm cm0 So so0 BookIs Sees ECame FirstAt NoneAt)
open acc (Ac Tm Bi TCame ACame)
open cell (Wr RowU)
open Go.RowKit
theorem info_ev:∃ i,Tryz.prog.info? 72=some i∧i.zero=some (.agg #[zI 0,zI 0,zI 0,zI 0,zI 0,zI 0,zI 0,zI 0,zI 0,zI 0,zI 0,zI 0,zI 0])∧i.size=13∧i.bytes=104:=info_parts (by kernel_rfl)
theorem make_ev (N:Nat) (h:N≤100000) (w:World):(Instr.makeSlice 58 (zI 0) (zI (N:Int))).run Tryz.prog w = .ok (.slice (some ⟨w.heap.size,0,none⟩) 0 N) (w.alloc (.cells (madeCells (Value.agg #[zI 0,zI 0,zI 0,zI 0,zI 0,zI 0,zI 0,zI 0,zI 0,zI 0,zI 0,zI 0,zI 0]).cells (N*13)) 72)):=by
 obtain ⟨i0,hi,hz0,hz1,hz2⟩:=info_ev;have:=run_make (P:=Tryz.prog) w 58 72 i0 (.agg #[zI 0,zI 0,zI 0,zI 0,zI 0,zI 0,zI 0,zI 0,zI 0,zI 0,zI 0,zI 0,zI 0]) Tryz.underlying58 hi hz0 .i64 .i64 0 (N:Int) (by omega) (by omega) (by rw [hz2];omega) (by omega);rw [hz1,show (N:Int).toNat=N by omega] at this;exact this
theorem pevents (a:Option Addr) (n cap:Nat) (c:List Int) (w:World) (h:Dk w a n cap c):Calls Tryz.prog 50 #[.slice a n cap] w fun e w'=>KeptPost w c e w':=by
 have HRE:Hid (Calls Tryz.prog 35 #[.slice a n cap] w fun e w'=>disk.RepNew w c e w'):=disk.kreplay w a n cap c h.row h.nil h.room h.bytes h.wd;have HW:Hid (∀ x∈c,0≤x∧x<4294967296):=h.wd;clear h;go_enter Tryz.func50,Tryz.ntmps50;go_wp2_with fail;refine HRE.o.mono ?_;rintro e w1 ⟨ra,N,rc,o,x,f,rfl,hrd,hn,hri,hb1⟩;have HB1:Hid (Below w.heap.size w w1):=hb1;have HRI:Hid (RepIs c o x f):=hri;have HRD:Hid (disk.ReadsF w1 w.heap.size ra N o):=hrd;have HOL:Hid (o.length=N):=hrd.1;have hol:N≤2048:=by rw [← hrd.1];exact rep_len hri
 clear hrd hri hb1 HRE hn;by_cases h0:f=0
 ·subst h0;have hmk:=make_ev N (by omega) w1;have HL0:Hid (book.Le (w1.alloc (.cells (madeCells (Value.agg #[zI 0,zI 0,zI 0,zI 0,zI 0,zI 0,zI 0,zI 0,zI 0,zI 0,zI 0,zI 0,zI 0]).cells (N*13)) 72)) w1.heap.size (.slice (some ⟨w1.heap.size,0,none⟩) 0 N) []):=World.ownsRow_made w1 _ N (Nat.le_refl _) (by unfold maxLen;omega) (size_madeCells _ _);have HB0:Hid (Below w1.heap.size w1 (w1.alloc (.cells (madeCells (Value.agg #[zI 0,zI 0,zI 0,zI 0,zI 0,zI 0,zI 0,zI 0,zI 0,zI 0,zI 0,zI 0,zI 0]).cells (N*13)) 72))):=(Below.refl _ _).alloc (Nat.le_refl _) _;generalize (w1.alloc (.cells (madeCells (Value.agg #[zI 0,zI 0,zI 0,zI 0,zI 0,zI 0,zI 0,zI 0,zI 0,zI 0,zI 0,zI 0,zI 0]).cells (N*13)) 72))=W0 at *;go_wp2_with fail;clear hmk;go_loopw [7,26] (fun u z wr=>∃ (k:Nat) (U:Value),k≤N∧z=zI (k:Int)∧U=u∧book.Le wr w1.heap.size U ((o.take k).map evOf)∧(∀ j,j<k→DecOk (o.getD j []))∧Below w1.heap.size w1 wr) (fun _ z _=>N - (intOf z).toNat)
  case atStart=>exact ⟨0,_,Nat.zero_le _,rfl,rfl,HL0.o,(fun j hj=>absurd hj (Nat.not_lt_zero _)),HB0.o⟩
  case round=>
   obtain ⟨k,U,hk,rfl,hU,hle,hok,hb⟩:=hrel;subst hU;have HLE:Hid (book.Le wr w1.heap.size U ((o.take k).map evOf)):=hle;have HOK:Hid (∀ j,j<k→DecOk (o.getD j [])):=hok;have HBR:Hid (Below w1.heap.size w1 wr):=hb;clear HL0 HB0;by_cases hlt:k<N
   ·have hdl:decide ((k:Int)<(N:Int))=true:=by simp;omega
    have hko:k<o.length:=by rw [HOL.o];exact hlt
    obtain ⟨g,off,rfl,_,hgl,hgc⟩:=HRD.o.2.resolve_left (by omega);obtain ⟨s,h1,h2,h3,_⟩:=hgc k hlt;have ck:wr.cell? ⟨g,off+k,none⟩=some (.slice s.a s.n s.c):=(hb.cell (p:=⟨g,off+k,none⟩) hgl).trans h1;have HDE:Hid (Calls Tryz.prog 36 #[.slice s.a s.n s.c] wr fun e w'=>book.DecGot wr (o.getD k []) e w'):=book.kdec wr s.a s.n s.c _ (h2.below hb) h3.2.2 h3.2.1 (by have:=h3.1;omega) (fun y hy=>HW.o y (rep_in HRI.o _ (getD_inR hko) y hy));clear hle hok hb hgc h1 h2 h3;generalize s.a=sa at *;generalize s.n=sn at *;generalize s.c=sc at *;have HTK:Hid ((o.take k).map evOf++[evOf (o.getD k [])]=(o.take (k+1)).map evOf):=take_mapE o k hko;have hzl:((o.take k).map evOf).length≤1000000:=by rw [List.length_map,List.length_take];omega
    generalize (o.take k).map evOf=Z at *;go_wp2_with fail;refine HDE.o.mono ?_;rintro e w2 ⟨v,f2,rfl,hd,hb2⟩;unfold book.Ev.v;have HX:Hid (Blk (w2.alloc (.cells #[zI v.kd,zI v.me,zI v.mo,zI v.id,zI v.te,zI v.de,zI v.fe,zI v.pr,zI v.ch,zI v.un,zI v.tg,zI v.ow,zI v.bp] 72)) w2.heap.size #[zI v.kd,zI v.me,zI v.mo,zI v.id,zI v.te,zI v.de,zI v.fe,zI v.pr,zI v.ch,zI v.un,zI v.tg,zI v.ow,zI v.bp] 72):=Blk.new w2 _ _;have HBX:Hid (Below w1.heap.size w1 (w2.alloc (.cells #[zI v.kd,zI v.me,zI v.mo,zI v.id,zI v.te,zI v.de,zI v.fe,zI v.pr,zI v.ch,zI v.un,zI v.tg,zI v.ow,zI v.bp] 72))):=(HBR.o.trans (hb2.mono HBR.o.size)).alloc (Nat.le_trans HBR.o.size hb2.size) _;have HLX:Hid (book.Le (w2.alloc (.cells #[zI v.kd,zI v.me,zI v.mo,zI v.id,zI v.te,zI v.de,zI v.fe,zI v.pr,zI v.ch,zI v.un,zI v.tg,zI v.ow,zI v.bp] 72)) w1.heap.size U Z):=(HLE.o.next hb2).alloc _;have HD:Hid (DecIs (o.getD k []) v f2):=hd;have hsx:w2.heap.size<(w2.alloc (.cells #[zI v.kd,zI v.me,zI v.mo,zI v.id,zI v.te,zI v.de,zI v.fe,zI v.pr,zI v.ch,zI v.un,zI v.tg,zI v.ow,zI v.bp] 72)).heap.size:=(Blk.new w2 #[zI v.kd,zI v.me,zI v.mo,zI v.id,zI v.te,zI v.de,zI v.fe,zI v.pr,zI v.ch,zI v.un,zI v.tg,zI v.ow,zI v.bp] 72).lt;clear hd hb2 HDE HLE HBR ck;go_upto_region 9 with fail
    generalize (w2.alloc (.cells #[zI v.kd,zI v.me,zI v.mo,zI v.id,zI v.te,zI v.de,zI v.fe,zI v.pr,zI v.ch,zI v.un,zI v.tg,zI v.ow,zI v.bp] 72))=W3 at *;generalize w2.heap.size=gx at *;by_cases h2:f2=0
    ·subst h2;obtain ⟨hdk,hve⟩:=dec_ok HD.o;have HV:Hid (evOf (o.getD k [])=v):=hve.symm
     have HOK2:Hid (∀ j,j<k+1→DecOk (o.getD j [])):=fun j hj=>by
      by_cases e:j=k
      ·subst e;exact hdk
      ·exact HOK.o j (by omega)
     have HBK:Hid (Blk (W3.alloc (.cells #[zI v.kd,zI v.me,zI v.mo,zI v.id,zI v.te,zI v.de,zI v.fe,zI v.pr,zI v.ch,zI v.un,zI v.tg,zI v.ow,zI v.bp] 72)) W3.heap.size v.cl.toArray 72):=Blk.new W3 _ _;have HLA:Hid (book.Le (W3.alloc (.cells #[zI v.kd,zI v.me,zI v.mo,zI v.id,zI v.te,zI v.de,zI v.fe,zI v.pr,zI v.ch,zI v.un,zI v.tg,zI v.ow,zI v.bp] 72)) w1.heap.size U Z):=HLX.o.alloc _;have HBA:Hid (Below w1.heap.size w1 (W3.alloc (.cells #[zI v.kd,zI v.me,zI v.mo,zI v.id,zI v.te,zI v.de,zI v.fe,zI v.pr,zI v.ch,zI v.un,zI v.tg,zI v.ow,zI v.bp] 72))):=HBX.o.alloc HBX.o.size _;clear hdk hve HD HOK
     go_wp2_with (first
      | (refine zqw rfl rfl rfl HX zqu72 ?_)
      | (at_builtin;refine book.wp_ev rfl _ _ rfl w1.heap.size W3.heap.size U Z v rfl rfl HLA.o HBK.o hzl HBA.o.size ?_)
      | fail)
     intro v3 w3 h3 hg3;have HB3:Hid (Below w1.heap.size w1 w3):=tar.own_bel HLA.o hg3 HBA.o (Nat.le_refl _) HBA.o.size;have H3:Hid (book.Le w3 w1.heap.size v3 (Z++[v])):=h3;clear h3 hg3 HLA HBA HBK HX HLX HBX;go_wp2_with fail;go_roundw
     case rel=>exact ⟨k+1,v3,by omega,by go_num,by first | rfl | trivial,by rw [← HTK.o,HV.o];exact H3.o,HOK2.o,HB3.o⟩
     case measure=>simp [intOf];omega
    ·have d2:(f2 != 0)=true:=by simpa using h2
     have HK:Hid (KeptIs c [] f2):=⟨o,x,0,HRI.o,.inr (.inr ⟨rfl,h2,rfl,k,hko,HOK.o,by have:=dec_no HD.o h2;rw [← this];exact HD.o⟩)⟩
     have HBF:Hid (Below w.heap.size w W3):=HB1.o.trans (HBX.o.mono HB1.o.size);clear h2 HD HOK;go_wp2_with fail;go_ret2;exact ⟨none,0,0,[],f2,rfl,HK.o,ecame_nil _,Nat.zero_le _,HBF.o⟩
   ·obtain rfl:k=N:=by omega
    have hdl:decide ((k:Int)<(k:Int))=false:=by simp
    have HTA:Hid (o.take k=o):=List.take_of_length_le (by rw [HOL.o];exact Nat.le_refl _);have HK:Hid (KeptIs c (o.map evOf) 0):=⟨o,x,0,HRI.o,.inr (.inl ⟨rfl,fun j hj=>HOK.o j (by rw [← HOL.o];exact hj),rfl,rfl⟩)⟩
    have hwf:∀ v∈o.map evOf,book.wf13 v:=fun v hv=>by
     obtain ⟨z,hz,rfl⟩:=List.mem_map.1 hv;obtain ⟨j,hj,rfl⟩:=List.mem_iff_getElem.1 hz;have e:o.getD j []=o[j]:=by simp [List.getD,List.getElem?_eq_getElem hj]
     have:=HOK.o j (by rw [← HOL.o];exact hj);rw [e] at this;exact book.wf_may this.2
    have hl2:=HLE.o;rw [HTA.o] at hl2;obtain ⟨pz,cz,hvz,hcz⟩:=hl2.came (by rw [List.length_map,HOL.o];omega) hwf;have hlen:(o.map evOf).length=k:=by rw [List.length_map];exact HOL.o
    rw [hlen] at hvz hcz;subst hvz;have HCZ:Hid (ECame wr pz k cz (o.map evOf)):=hcz;have HBF:Hid (Below w.heap.size w wr):=HB1.o.trans (HBR.o.mono HB1.o.size);clear hle hok hb hl2 hcz hwf hlen HLE HOK HTA;go_wp2_with fail;go_ret2;exact ⟨pz,k,cz,_,0,rfl,HK.o,HCZ.o,hol,HBF.o⟩
 ·have d0:(f != 0)=true:=by simpa using h0
  have HK:Hid (KeptIs c [] f):=⟨o,x,f,HRI.o,.inl ⟨h0,rfl,rfl⟩⟩
  clear h0;go_wp2_with fail;go_ret2;exact ⟨none,0,0,[],f,rfl,HK.o,ecame_nil _,Nat.zero_le _,HB1.o⟩
theorem step_wf {t:Tm} {bk bk':List Cm} {v:Ev} (h:book.StepIs t bk v bk' 0) (hw:book.AWf bk):book.AWf bk':=by
 rcases h with ⟨_,e⟩ | ⟨_,_,_,e⟩ | ⟨m,_,_,_,rfl⟩ | ⟨_,_,_,e⟩ | ⟨m,_,k,c',_,hh,hs⟩
 ·cases e
 ·cases e
 ·exact hw.snoc ⟨(book.wf_may m).2.1,rfl,rfl,rfl,rfl,rfl⟩
 ·cases e
 ·rw [hs rfl];exact hw.set (book.hap_wf hh m).1
theorem book_wf {t:Tm} {l:List Ev} {bk:List Cm} {a:Int} (h:BookIs t l bk a 0):book.AWf bk:=by
 obtain ⟨_,_,_,st,s0,s1,rfl⟩:=book_ok h
 have:∀ i,i≤l.length→book.AWf (st i):=by
  intro i
  induction i with
  | zero=>intro _ c hc;rw [s0] at hc;cases hc
  | succ i ih=>intro hi;exact step_wf (s1 i (by omega)) (ih (by omega))
 exact this _ (Nat.le_refl _)
theorem load_wf {t:Tm} {c:List Int} {bk:List Cm} (h:LoadIs t c bk 0):book.AWf bk:=by
 obtain ⟨l,e,_,⟨p,_,q⟩ | ⟨_,a,q⟩⟩:=h
 ·exact absurd q.symm p
 ·exact book_wf q
theorem book_no {t:Tm} {l:List Ev} {bk:List Cm} {a f:Int} (h:BookIs t l bk a f) (hf:f≠0):bk=[]:=by
 rcases h with ⟨_,_,p,_⟩ | ⟨_,_,p,_⟩ | ⟨_,_,k,st,_,_,⟨_,_,_,p⟩ | ⟨_,_,_,p,_⟩⟩
 ·exact p
 ·exact p
 ·exact absurd p hf
 ·exact p
end vnd
end Go.Proofs.YtnpblpbohcegoaaGreatDoor
