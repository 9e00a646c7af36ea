import Derived.Test.YtpapdkhjdelfcabGreatHBP
set_option maxRecDepth 100000
set_option maxHeartbeats 4000000
namespace Go.Proofs.YtpapdkhjdelfcabGreat
open Go.RowKit
theorem mask_app {K M:List Nat} {w:World} (h:∀j∈K,j∈M∨w.heap.size≤j):mask (K++M) w=mask M w:=
 mask_ext (fun _ hk=>List.mem_append_right _ hk) (fun k hk=>(List.mem_append.1 hk).elim (h k) Or.inl)
theorem WentR.app {K M:List Nat} {w:World} {on:Cfg} {vr:List Value} {bs:List (List BK)} (h:WentR M w on vr bs) (hK:∀j∈K,j∈M∨w.heap.size≤j):WentR (K++M) w on vr bs:=⟨h.1,fun i v X hv hX=>by rw [mask_app hK];exact h.2 i v X hv hX⟩
theorem KInv.svcTo {W0:World} {p s:Nat} {k:KI} {w w':World} (h:KInv W0 p s k w) (N:List Nat) (b:But N w w') (hN:∀j∈N,j∈k.svp.own k.q) (L':List Nat) (pp':List (Nat×Pln×List Nat)) (K:List Nat) (hK:∀j∈K,(j∈k.M∨w.heap.size≤j)∧j<w'.heap.size) (hS:SvpAt (K++k.M) k.q ⟨k.on,k.B,k.g,L',pp'⟩ w')
  (hnew:∀j∈(Svp.mk k.on k.B k.g L' pp').own k.q,j∈k.svp.own k.q∨w.heap.size≤j) (d:Nat) (hl:pp'.length=k.pp.length+d):KInv W0 p s {k with M:=K++k.M,L:=L',pp:=pp',ds:=k.ds+d,dh:=k.dh+d} w':=by
 have hle:=h.le;have hNb:∀j∈N,j∈k.blocks p:=fun j hj=>cnt_mem.2 (by rw [KI.count];have:=cnt_mem.1 (hN j hj);omega)
 have Kp:=h.keep N b hNb
 have hout:∀L:List Nat,(∀j,(k.svp.own k.q).count j+L.count j≤1)→∀j∈L,j∉N:=fun L hL j hj e=>by
  have a1:=cnt_mem.1 (hN j e);have a2:=hL j;have a3:=cnt_mem.1 hj;omega
 have hpN:p∉N:=hout [p] (fun j=>by have:=hle j;omega) p (by simp);have hK1:∀j∈K,j∈k.M∨w.heap.size≤j:=fun j hj=>(hK j hj).1
 have hNM:∀j∈N,j∈K++k.M∨w.heap.size≤j:=fun j hj=>Or.inl (List.mem_append_right _ (h.inM j (hNb j hj)))
 have hW0:=h.bel.size
 have hP:PoolAt (mask (K++k.M) w') k.vb k.B:=by
  have:=h.pool;rw [←mask_app hK1] at this;exact this.later (b.mono hNM)
 refine ⟨Kp.at_ hpN,List.nodup_iff_count.2 fun a=>?_,fun j hj=>?_,fun j hj=>?_,Kp.bel,hS,hP,h.good,h.cok,h.onok,h.gen,Kp.went (hout _ (fun j=>by have:=hle j;omega)),h.wlen,(h.wrow.app hK1).but b hNM,Kp.speaks (hout _ (fun j=>by have:=hle j;omega)),Kp.held (hout _ (fun j=>by have:=hle j;omega)),by show k.sp.length+(k.ds+d)=pp'.length;have:=h.slen;omega,by show k.hd.length+(k.dh+d)=pp'.length;have:=h.hlen;omega,h.hrng,Kp.frames (hout _ (fun j=>by have:=hle j;omega)),h.flen,h.fsz,h.isz⟩
 ·have a0:(KI.blocks {k with M:=K++k.M,L:=L',pp:=pp',ds:=k.ds+d,dh:=k.dh+d} p).count a=[p].count a+(gl k.vw).count a+(gl k.vs).count a+(gl k.vh).count a+(gl k.vf).count a+((Svp.mk k.on k.B k.g L' pp').own k.q).count a:=KI.count _ p a;rw [a0];have a1:=hle a;have a2:=cnt_le hS.nodup a;by_cases hm:a∈(Svp.mk k.on k.B k.g L' pp').own k.q
  ·rcases hnew a hm with e|e
   ·have:=cnt_mem.1 e;omega
   ·have a3:(k.blocks p).count a=0:=Nat.eq_zero_of_not_pos fun e2=>by
     have:=(h.lt a (h.inM a (List.count_pos_iff.1 e2))).2;omega
    rw [KI.count] at a3
    omega
  ·have a3:((Svp.mk k.on k.B k.g L' pp').own k.q).count a=0:=Nat.eq_zero_of_not_pos fun e2=>hm (List.count_pos_iff.1 e2)
   omega
 ·have a0:=cnt_mem.1 hj;have a9:(KI.blocks {k with M:=K++k.M,L:=L',pp:=pp',ds:=k.ds+d,dh:=k.dh+d} p).count j=[p].count j+(gl k.vw).count j+(gl k.vs).count j+(gl k.vh).count j+(gl k.vf).count j+((Svp.mk k.on k.B k.g L' pp').own k.q).count j:=KI.count _ p j;rw [a9] at a0;by_cases hm:j∈(Svp.mk k.on k.B k.g L' pp').own k.q
  ·exact hS.inM j hm
  ·have a3:((Svp.mk k.on k.B k.g L' pp').own k.q).count j=0:=Nat.eq_zero_of_not_pos fun e2=>hm (List.count_pos_iff.1 e2)
   refine List.mem_append_right _ (h.inM j (cnt_mem.2 ?_));rw [KI.count];omega
 ·rcases List.mem_append.1 hj with hj|hj
  ·refine ⟨?_,(hK j hj).2⟩;rcases (hK j hj).1 with e|e
   ·exact (h.lt j e).1
   ·omega
  ·exact Kp.lt j hj
theorem KInv.plane {W0:World} {p s:Nat} {k:KI} {w w':World} {n:Nat} {p':Pln} {e:Ending} (h:KInv W0 p s k w) (hn:n<k.pp.length) (hr:RPlane k.M k.q k.svp n hn p' w e w'):∃R',KInv W0 p s {k with M:=R'++k.M,pp:=k.pp.set n (k.pp[n].1,p',R')} w':=by
 obtain ⟨-,R',hR,hb,hS⟩:=hr;have hone:=fun a=>blk_one hn a
 have hoc:=own_count k.svp k.q;have hset:=fun a=>blk_set a (k.pp[n].1,p',R') k.pp n hn
 have hin : ∀ j ∈ k.pp[n].1 :: k.pp[n].2.2, j ∈ k.svp.own k.q := fun j hj => cnt_mem.2 (by
   have a1 := cnt_mem.1 hj
   have a2 := hone j
   have a3 : ((k.svp.own k.q)).count j = [k.q].count j + k.L.count j + (blk k.pp).count j := hoc j
   omega)
 refine ⟨R',h.svcTo _ hb hin k.L (k.pp.set n (k.pp[n].1,p',R')) R' (fun j hj=>⟨(hR j hj).1.imp (fun e=>h.svc.inM j (hin j (List.mem_cons_of_mem _ e))) id,(hR j hj).2⟩) hS (fun j hj=>?_) 0 (by rw [List.length_set];rfl)⟩;have a0:=cnt_mem.1 hj;have a1:=own_count ⟨k.on,k.B,k.g,k.L,k.pp.set n (k.pp[n].1,p',R')⟩ k.q j;have a2:=hset j;have a3:((k.svp.own k.q)).count j=[k.q].count j+k.L.count j+(blk k.pp).count j:=hoc j;simp only at a1;by_cases ho:j∈k.svp.own k.q
 ·exact Or.inl ho
 ·have a4:(k.svp.own k.q).count j=0:=Nat.eq_zero_of_not_pos fun e2=>ho (List.count_pos_iff.1 e2)
  have a5:1≤(k.pp[n].1::R').count j:=by
   show 1≤((k.pp[n].1,p',R').1::(k.pp[n].1,p',R').2.2).count j;omega
  rcases List.mem_cons.1 (cnt_mem.2 a5) with e|e
  ·exact Or.inl (hin j (by rw [e];exact List.mem_cons_self))
  ·exact (hR j e).1.imp (fun e=>hin j (List.mem_cons_of_mem _ e)) id
theorem KInv.frame {W0:World} {p s:Nat} {k:KI} {w w1:World} {g cap:Nat} {S:ByteArray} (h:KInv W0 p s k w) (hb:But (gl k.vf) w w1) (hrow:w1.ownsRow W0.heap.size 9 1 (.slice (some ⟨g,0,none⟩) (k.fr.length+1) cap) (k.fr.length+1) (k.fr.map Value.string++[.string S])) (hat:k.vf.ownBlock=some g∨w.heap.size≤g) (hS:S.size≤1099511627776):
  KInv W0 p s {k with M:=g::k.M,vf:= .slice (some ⟨g,0,none⟩) (k.fr.length+1) cap,fr:=k.fr++[S],fb:=k.fb+1} (w1.setCell ⟨p,18,none⟩ (.slice (some ⟨g,0,none⟩) (k.fr.length+1) cap)):=by
 have hle:=h.le;have hpM:=h.inM _ h.p_in;have h1p:1≤[p].count p:=cnt_mem.1 (by simp);have hvfb:∀j∈gl k.vf,j∈k.blocks p:=fun j hj=>cnt_mem.2 (by rw [KI.count];have:=cnt_mem.1 hj;omega)
 have hvf:gl k.vf=k.vf.ownBlock.toList:=rfl;have b3:But [p] w1 (w1.setCell ⟨p,18,none⟩ (.slice (some ⟨g,0,none⟩) (k.fr.length+1) cap)):=(But.refl _ _).set (by simp) _;have hpf:p∉gl k.vf:=fun e=>by have:=hle p;have:=cnt_mem.1 e;omega
 have hW:=(h.at_.but hb hpf).set 18 (.slice (some ⟨g,0,none⟩) (k.fr.length+1) cap);have hgl:g<w1.heap.size:=(World.ownsRow.lt hrow g rfl).2;have hg0:W0.heap.size≤g:=(World.ownsRow.lt hrow g rfl).1;generalize hwF:w1.setCell ⟨p,18,none⟩ (.slice (some ⟨g,0,none⟩) (k.fr.length+1) cap)=wF at *;have bA:But (p::gl k.vf) w wF:=(hb.mono (fun j hj=>Or.inl (List.mem_cons_of_mem _ hj))).trans (b3.mono (fun j hj=>Or.inl (by rw [List.mem_singleton.1 hj];simp)))
 have hNb:∀j∈p::gl k.vf,j∈k.blocks p:=fun j hj=>by
  rcases List.mem_cons.1 hj with e|hj
  ·rw [e];exact h.p_in
  ·exact hvfb j hj
 have K:=h.keep _ bA hNb
 have hN0:∀j∈p::gl k.vf,1≤[p].count j+(gl k.vf).count j:=fun j hj=>by
  rcases List.mem_cons.1 hj with e|hj
  ·rw [e];omega
  ·have:=cnt_mem.1 hj;omega
 have hout:∀L:List Nat,(∀j,[p].count j+(gl k.vf).count j+L.count j≤1)→∀j∈L,j∉p::gl k.vf:=fun L hL j hj e=>by
  have a1:=hN0 j e;have a2:=hL j;have a3:=cnt_mem.1 hj;omega
 have hgM:g∈k.M∨w.heap.size≤g:=hat.imp (fun e=>h.inM g (hvfb g (by rw [hvf,e];simp))) id;have hNM:∀j∈p::gl k.vf,j∈g::k.M∨w.heap.size≤j:=fun j hj=>Or.inl (List.mem_cons_of_mem _ (h.inM j (hNb j hj)))
 have hgp:g≠p:=fun e=>by
  rcases hat with h1|h1
  ·have:=hle p;have a3:1≤(gl k.vf).count p:=cnt_mem.1 (by rw [hvf,h1,e];simp);omega
  ·have:=(h.lt p hpM).2;omega
 have hsvO:∀j∈p::gl k.vf,j∉k.svp.own k.q:=fun j hj e=>by
  have a1:=hN0 j hj;have a2:=hle j;have a3:=cnt_mem.1 e;omega
 have hS0 := (h.svc.wide (M' := g :: k.M) (fun _ hk => List.mem_cons_of_mem _ hk) (fun j hj => by
   rcases List.mem_cons.1 hj with e | e
   · rw [e]; exact hgM
   · exact Or.inl e)).but bA hsvO hNM
 have hP:PoolAt (mask (g::k.M) wF) k.vb k.B:=by
  have:=h.pool;rw [←mask_cons hgM] at this;exact this.later (bA.mono hNM)
 have z3:=b3.size;refine ⟨hW,List.nodup_iff_count.2 fun a=>?_,fun j hj=>?_,fun j hj=>?_,K.bel,hS0,hP,h.good,h.cok,h.onok,h.gen,K.went (hout _ (fun j=>by have:=hle j;omega)),h.wlen,(h.wrow.cons hgM).but bA hNM,K.speaks (hout _ (fun j=>by have:=hle j;omega)),K.held (hout _ (fun j=>by have:=hle j;omega)),h.slen,h.hlen,h.hrng,?_,by show (k.fr++[S]).length≤k.fb+1;have:=h.flen;simp;omega,fun t ht=>?_,h.isz⟩
 ·have a0:(KI.blocks {k with M:=g::k.M,vf:= .slice (some ⟨g,0,none⟩) (k.fr.length+1) cap,fr:=k.fr++[S],fb:=k.fb+1} p).count a=[p].count a+(gl k.vw).count a+(gl k.vs).count a+(gl k.vh).count a+[g].count a+(k.svp.own k.q).count a:=KI.count _ p a;rw [a0];have a1:=hle a;rcases hat with e|e
  ·have a2:(gl k.vf).count a=[g].count a:=by rw [hvf,e];rfl
   omega
  ·by_cases hag:g=a
   ·subst hag
    have a3:(k.blocks p).count g=0:=Nat.eq_zero_of_not_pos fun e2=>by
     have:=(h.lt g (h.inM g (List.count_pos_iff.1 e2))).2;omega
    rw [KI.count] at a3;have a4:[g].count g≤1:=cnt_le (by simp) g;omega
   ·have a4:[g].count a=0:=Nat.eq_zero_of_not_pos fun e2=>hag (List.mem_singleton.1 (List.count_pos_iff.1 e2)).symm
    omega
 ·have a0:=cnt_mem.1 hj;have a1:(KI.blocks {k with M:=g::k.M,vf:= .slice (some ⟨g,0,none⟩) (k.fr.length+1) cap,fr:=k.fr++[S],fb:=k.fb+1} p).count j=[p].count j+(gl k.vw).count j+(gl k.vs).count j+(gl k.vh).count j+[g].count j+(k.svp.own k.q).count j:=KI.count _ p j;rw [a1] at a0;by_cases hag:j=g
  ·rw [hag];exact List.mem_cons_self
  ·refine List.mem_cons_of_mem _ (h.inM j (cnt_mem.2 ?_));rw [KI.count];have a4:[g].count j=0:=Nat.eq_zero_of_not_pos fun e2=>hag (List.mem_singleton.1 (List.count_pos_iff.1 e2))
   omega
 ·rcases List.mem_cons.1 hj with e|hj
  ·rw [e];exact ⟨hg0,by omega⟩
  ·exact K.lt j hj
 ·have := ownB_but hrow b3 (fun j hj e => by
    rw [gl_sl] at hj
    exact hgp (by rw [← List.mem_singleton.1 hj, List.mem_singleton.1 e]))
  simpa using this
 ·rcases List.mem_append.1 ht with ht|ht
  ·exact h.fsz t ht
  ·rw [List.mem_singleton.1 ht];exact hS
theorem KInv.heldApp {W0:World} {p s:Nat} {k:KI} {w w1:World} {g cap:Nat} {x:Int} (h:KInv W0 p s k w) (hb:But (gl k.vh) w w1) (hrow:w1.ownsRow W0.heap.size 3 1 (.slice (some ⟨g,0,none⟩) (k.hd.length+1) cap) (k.hd.length+1) (k.hd.map (Value.int .i64)++[.int .i64 x])) (hat:k.vh.ownBlock=some g∨w.heap.size≤g) (hx:0≤x∧x≤1073741824) (hd1:1≤k.dh):
  KInv W0 p s {k with M:=g::k.M,vh:= .slice (some ⟨g,0,none⟩) (k.hd.length+1) cap,hd:=k.hd++[x],dh:=k.dh - 1} (w1.setCell ⟨p,17,none⟩ (.slice (some ⟨g,0,none⟩) (k.hd.length+1) cap)):=by
 have hle:=h.le;have hpM:=h.inM _ h.p_in;have h1p:1≤[p].count p:=cnt_mem.1 (by simp);have hvfb:∀j∈gl k.vh,j∈k.blocks p:=fun j hj=>cnt_mem.2 (by rw [KI.count];have:=cnt_mem.1 hj;omega)
 have hvf:gl k.vh=k.vh.ownBlock.toList:=rfl;have b3:But [p] w1 (w1.setCell ⟨p,17,none⟩ (.slice (some ⟨g,0,none⟩) (k.hd.length+1) cap)):=(But.refl _ _).set (by simp) _;have hpf:p∉gl k.vh:=fun e=>by have:=hle p;have:=cnt_mem.1 e;omega
 have hW:=(h.at_.but hb hpf).set 17 (.slice (some ⟨g,0,none⟩) (k.hd.length+1) cap);have hgl:g<w1.heap.size:=(World.ownsRow.lt hrow g rfl).2;have hg0:W0.heap.size≤g:=(World.ownsRow.lt hrow g rfl).1;generalize hwF:w1.setCell ⟨p,17,none⟩ (.slice (some ⟨g,0,none⟩) (k.hd.length+1) cap)=wF at *;have bA:But (p::gl k.vh) w wF:=(hb.mono (fun j hj=>Or.inl (List.mem_cons_of_mem _ hj))).trans (b3.mono (fun j hj=>Or.inl (by rw [List.mem_singleton.1 hj];simp)))
 have hNb:∀j∈p::gl k.vh,j∈k.blocks p:=fun j hj=>by
  rcases List.mem_cons.1 hj with e|hj
  ·rw [e];exact h.p_in
  ·exact hvfb j hj
 have K:=h.keep _ bA hNb
 have hN0:∀j∈p::gl k.vh,1≤[p].count j+(gl k.vh).count j:=fun j hj=>by
  rcases List.mem_cons.1 hj with e|hj
  ·rw [e];omega
  ·have:=cnt_mem.1 hj;omega
 have hout:∀L:List Nat,(∀j,[p].count j+(gl k.vh).count j+L.count j≤1)→∀j∈L,j∉p::gl k.vh:=fun L hL j hj e=>by
  have a1:=hN0 j e;have a2:=hL j;have a3:=cnt_mem.1 hj;omega
 have hgM:g∈k.M∨w.heap.size≤g:=hat.imp (fun e=>h.inM g (hvfb g (by rw [hvf,e];simp))) id;have hNM:∀j∈p::gl k.vh,j∈g::k.M∨w.heap.size≤j:=fun j hj=>Or.inl (List.mem_cons_of_mem _ (h.inM j (hNb j hj)))
 have hgp:g≠p:=fun e=>by
  rcases hat with h1|h1
  ·have:=hle p;have a3:1≤(gl k.vh).count p:=cnt_mem.1 (by rw [hvf,h1,e];simp);omega
  ·have:=(h.lt p hpM).2;omega
 have hsvO:∀j∈p::gl k.vh,j∉k.svp.own k.q:=fun j hj e=>by
  have a1:=hN0 j hj;have a2:=hle j;have a3:=cnt_mem.1 e;omega
 have hS0 := (h.svc.wide (M' := g :: k.M) (fun _ hk => List.mem_cons_of_mem _ hk) (fun j hj => by
   rcases List.mem_cons.1 hj with e | e
   · rw [e]; exact hgM
   · exact Or.inl e)).but bA hsvO hNM
 have hP:PoolAt (mask (g::k.M) wF) k.vb k.B:=by
  have:=h.pool;rw [←mask_cons hgM] at this;exact this.later (bA.mono hNM)
 have z3:=b3.size;refine ⟨hW,List.nodup_iff_count.2 fun a=>?_,fun j hj=>?_,fun j hj=>?_,K.bel,hS0,hP,h.good,h.cok,h.onok,h.gen,K.went (hout _ (fun j=>by have:=hle j;omega)),h.wlen,(h.wrow.cons hgM).but bA hNM,K.speaks (hout _ (fun j=>by have:=hle j;omega)),?_,h.slen,by show (k.hd++[x]).length+(k.dh - 1)=k.pp.length;have:=h.hlen;simp;omega,fun t ht=>?_,K.frames (hout _ (fun j=>by have:=hle j;omega)),h.flen,h.fsz,h.isz⟩
 ·have a0:(KI.blocks {k with M:=g::k.M,vh:= .slice (some ⟨g,0,none⟩) (k.hd.length+1) cap,hd:=k.hd++[x],dh:=k.dh - 1} p).count a=[p].count a+(gl k.vw).count a+(gl k.vs).count a+[g].count a+(gl k.vf).count a+(k.svp.own k.q).count a:=KI.count _ p a;rw [a0];have a1:=hle a;rcases hat with e|e
  ·have a2:(gl k.vh).count a=[g].count a:=by rw [hvf,e];rfl
   omega
  ·by_cases hag:g=a
   ·subst hag
    have a3:(k.blocks p).count g=0:=Nat.eq_zero_of_not_pos fun e2=>by
     have:=(h.lt g (h.inM g (List.count_pos_iff.1 e2))).2;omega
    rw [KI.count] at a3;have a4:[g].count g≤1:=cnt_le (by simp) g;omega
   ·have a4:[g].count a=0:=Nat.eq_zero_of_not_pos fun e2=>hag (List.mem_singleton.1 (List.count_pos_iff.1 e2)).symm
    omega
 ·have a0:=cnt_mem.1 hj;have a1:(KI.blocks {k with M:=g::k.M,vh:= .slice (some ⟨g,0,none⟩) (k.hd.length+1) cap,hd:=k.hd++[x],dh:=k.dh - 1} p).count j=[p].count j+(gl k.vw).count j+(gl k.vs).count j+[g].count j+(gl k.vf).count j+(k.svp.own k.q).count j:=KI.count _ p j;rw [a1] at a0;by_cases hag:j=g
  ·rw [hag];exact List.mem_cons_self
  ·refine List.mem_cons_of_mem _ (h.inM j (cnt_mem.2 ?_));rw [KI.count];have a4:[g].count j=0:=Nat.eq_zero_of_not_pos fun e2=>hag (List.mem_singleton.1 (List.count_pos_iff.1 e2))
   omega
 ·rcases List.mem_cons.1 hj with e|hj
  ·rw [e];exact ⟨hg0,by omega⟩
  ·exact K.lt j hj
 ·have := ownB_but hrow b3 (fun j hj e => by
    rw [gl_sl] at hj
    exact hgp (by rw [← List.mem_singleton.1 hj, List.mem_singleton.1 e]))
  show OwnI W0.heap.size wF (.slice (some ⟨g,0,none⟩) (k.hd.length+1) cap) (k.hd++[x])
  unfold OwnI
  simpa using this
 ·rcases List.mem_append.1 ht with ht|ht
  ·exact h.hrng t ht
  ·rw [List.mem_singleton.1 ht];exact hx
theorem KInv.spApp {W0:World} {p s:Nat} {k:KI} {w w1:World} {g cap:Nat} {x:Int} (h:KInv W0 p s k w) (hb:But (gl k.vs) w w1) (hrow:w1.ownsRow W0.heap.size 3 1 (.slice (some ⟨g,0,none⟩) (k.sp.length+1) cap) (k.sp.length+1) (k.sp.map (Value.int .i64)++[.int .i64 x])) (hat:k.vs.ownBlock=some g∨w.heap.size≤g) (hd1:1≤k.ds):
  KInv W0 p s {k with M:=g::k.M,vs:= .slice (some ⟨g,0,none⟩) (k.sp.length+1) cap,sp:=k.sp++[x],ds:=k.ds - 1} (w1.setCell ⟨p,16,none⟩ (.slice (some ⟨g,0,none⟩) (k.sp.length+1) cap)):=by
 have hle:=h.le;have hpM:=h.inM _ h.p_in;have h1p:1≤[p].count p:=cnt_mem.1 (by simp);have hvfb:∀j∈gl k.vs,j∈k.blocks p:=fun j hj=>cnt_mem.2 (by rw [KI.count];have:=cnt_mem.1 hj;omega)
 have hvf:gl k.vs=k.vs.ownBlock.toList:=rfl;have b3:But [p] w1 (w1.setCell ⟨p,16,none⟩ (.slice (some ⟨g,0,none⟩) (k.sp.length+1) cap)):=(But.refl _ _).set (by simp) _;have hpf:p∉gl k.vs:=fun e=>by have:=hle p;have:=cnt_mem.1 e;omega
 have hW:=(h.at_.but hb hpf).set 16 (.slice (some ⟨g,0,none⟩) (k.sp.length+1) cap);have hgl:g<w1.heap.size:=(World.ownsRow.lt hrow g rfl).2;have hg0:W0.heap.size≤g:=(World.ownsRow.lt hrow g rfl).1;generalize hwF:w1.setCell ⟨p,16,none⟩ (.slice (some ⟨g,0,none⟩) (k.sp.length+1) cap)=wF at *;have bA:But (p::gl k.vs) w wF:=(hb.mono (fun j hj=>Or.inl (List.mem_cons_of_mem _ hj))).trans (b3.mono (fun j hj=>Or.inl (by rw [List.mem_singleton.1 hj];simp)))
 have hNb:∀j∈p::gl k.vs,j∈k.blocks p:=fun j hj=>by
  rcases List.mem_cons.1 hj with e|hj
  ·rw [e];exact h.p_in
  ·exact hvfb j hj
 have K:=h.keep _ bA hNb
 have hN0:∀j∈p::gl k.vs,1≤[p].count j+(gl k.vs).count j:=fun j hj=>by
  rcases List.mem_cons.1 hj with e|hj
  ·rw [e];omega
  ·have:=cnt_mem.1 hj;omega
 have hout:∀L:List Nat,(∀j,[p].count j+(gl k.vs).count j+L.count j≤1)→∀j∈L,j∉p::gl k.vs:=fun L hL j hj e=>by
  have a1:=hN0 j e;have a2:=hL j;have a3:=cnt_mem.1 hj;omega
 have hgM:g∈k.M∨w.heap.size≤g:=hat.imp (fun e=>h.inM g (hvfb g (by rw [hvf,e];simp))) id;have hNM:∀j∈p::gl k.vs,j∈g::k.M∨w.heap.size≤j:=fun j hj=>Or.inl (List.mem_cons_of_mem _ (h.inM j (hNb j hj)))
 have hgp:g≠p:=fun e=>by
  rcases hat with h1|h1
  ·have:=hle p;have a3:1≤(gl k.vs).count p:=cnt_mem.1 (by rw [hvf,h1,e];simp);omega
  ·have:=(h.lt p hpM).2;omega
 have hsvO:∀j∈p::gl k.vs,j∉k.svp.own k.q:=fun j hj e=>by
  have a1:=hN0 j hj;have a2:=hle j;have a3:=cnt_mem.1 e;omega
 have hS0 := (h.svc.wide (M' := g :: k.M) (fun _ hk => List.mem_cons_of_mem _ hk) (fun j hj => by
   rcases List.mem_cons.1 hj with e | e
   · rw [e]; exact hgM
   · exact Or.inl e)).but bA hsvO hNM
 have hP:PoolAt (mask (g::k.M) wF) k.vb k.B:=by
  have:=h.pool;rw [←mask_cons hgM] at this;exact this.later (bA.mono hNM)
 have z3:=b3.size;refine ⟨hW,List.nodup_iff_count.2 fun a=>?_,fun j hj=>?_,fun j hj=>?_,K.bel,hS0,hP,h.good,h.cok,h.onok,h.gen,K.went (hout _ (fun j=>by have:=hle j;omega)),h.wlen,(h.wrow.cons hgM).but bA hNM,?_,K.held (hout _ (fun j=>by have:=hle j;omega)),by show (k.sp++[x]).length+(k.ds - 1)=k.pp.length;have:=h.slen;simp;omega,h.hlen,h.hrng,K.frames (hout _ (fun j=>by have:=hle j;omega)),h.flen,h.fsz,h.isz⟩
 ·have a0:(KI.blocks {k with M:=g::k.M,vs:= .slice (some ⟨g,0,none⟩) (k.sp.length+1) cap,sp:=k.sp++[x],ds:=k.ds - 1} p).count a=[p].count a+(gl k.vw).count a+[g].count a+(gl k.vh).count a+(gl k.vf).count a+(k.svp.own k.q).count a:=KI.count _ p a;rw [a0];have a1:=hle a;rcases hat with e|e
  ·have a2:(gl k.vs).count a=[g].count a:=by rw [hvf,e];rfl
   omega
  ·by_cases hag:g=a
   ·subst hag
    have a3:(k.blocks p).count g=0:=Nat.eq_zero_of_not_pos fun e2=>by
     have:=(h.lt g (h.inM g (List.count_pos_iff.1 e2))).2;omega
    rw [KI.count] at a3;have a4:[g].count g≤1:=cnt_le (by simp) g;omega
   ·have a4:[g].count a=0:=Nat.eq_zero_of_not_pos fun e2=>hag (List.mem_singleton.1 (List.count_pos_iff.1 e2)).symm
    omega
 ·have a0:=cnt_mem.1 hj;have a1:(KI.blocks {k with M:=g::k.M,vs:= .slice (some ⟨g,0,none⟩) (k.sp.length+1) cap,sp:=k.sp++[x],ds:=k.ds - 1} p).count j=[p].count j+(gl k.vw).count j+[g].count j+(gl k.vh).count j+(gl k.vf).count j+(k.svp.own k.q).count j:=KI.count _ p j;rw [a1] at a0;by_cases hag:j=g
  ·rw [hag];exact List.mem_cons_self
  ·refine List.mem_cons_of_mem _ (h.inM j (cnt_mem.2 ?_));rw [KI.count];have a4:[g].count j=0:=Nat.eq_zero_of_not_pos fun e2=>hag (List.mem_singleton.1 (List.count_pos_iff.1 e2))
   omega
 ·rcases List.mem_cons.1 hj with e|hj
  ·rw [e];exact ⟨hg0,by omega⟩
  ·exact K.lt j hj
 ·have := ownB_but hrow b3 (fun j hj e => by
    rw [gl_sl] at hj
    exact hgp (by rw [← List.mem_singleton.1 hj, List.mem_singleton.1 e]))
  show OwnI W0.heap.size wF (.slice (some ⟨g,0,none⟩) (k.sp.length+1) cap) (k.sp++[x])
  unfold OwnI
  simpa using this
theorem KInv.joined {W0:World} {p s:Nat} {k:KI} {w w':World} {fm:Nat} {e:Ending} (h:KInv W0 p s k w) (hr:RJoinV k.M k.q k.svp fm w e w'):e= .returned (.tuple #[.int .i64 (k.pp.length:Int),.int .i64 0])∧∃K L' pz,KInv W0 p s {k with M:=K++k.M,L:=L',pp:=k.pp++[(pz,plnNew fm,[])],ds:=k.ds+1,dh:=k.dh+1} w':=by
 obtain ⟨pz,L',he,hb,⟨hp1,hp2⟩,hL,hS⟩:=hr;have hoc:=own_count k.svp k.q
 have e2:∀a,(blk (k.pp++[(pz,plnNew fm,[])])).count a=(blk k.pp).count a+[pz].count a:=fun a=>by
  unfold blk;rw [List.flatMap_append,List.count_append];rfl
 refine ⟨he,pz::L',L',pz,h.svcTo _ hb (fun j hj=>cnt_mem.2 ?_) L' (k.pp++[(pz,plnNew fm,[])]) (pz::L') (fun j hj=>?_) hS (fun j hj=>?_) 1 (by rw [List.length_append];rfl)⟩
 ·have a1:=cnt_mem.1 hj;have a3:(k.svp.own k.q).count j=[k.q].count j+k.L.count j+(blk k.pp).count j:=hoc j
  have a4:(k.q::k.svp.L).count j=[k.q].count j+k.L.count j:=by
   have:k.q::k.svp.L=[k.q]++k.L:=rfl;rw [this,List.count_append]
  omega
 ·rcases List.mem_cons.1 hj with e|hj
  ·rw [e];exact ⟨Or.inr hp1,hp2⟩
  ·refine ⟨(hL j hj).1.imp (fun e=>h.svc.inM j (cnt_mem.2 ?_)) id,(hL j hj).2⟩;have a3:(k.svp.own k.q).count j=[k.q].count j+k.L.count j+(blk k.pp).count j:=hoc j;have:=cnt_mem.1 (show j∈k.L from e);omega
 ·have a0:=cnt_mem.1 hj;have a1:((Svp.mk k.on k.B k.g L' (k.pp++[(pz,plnNew fm,[])])).own k.q).count j=[k.q].count j+L'.count j+(blk (k.pp++[(pz,plnNew fm,[])])).count j:=own_count _ k.q j;have a2:=e2 j;have a3:(k.svp.own k.q).count j=[k.q].count j+k.L.count j+(blk k.pp).count j:=hoc j;by_cases hj2:j∈L'
  ·refine (hL j hj2).1.imp (fun e=>cnt_mem.2 ?_) id;have:=cnt_mem.1 (show j∈k.L from e);omega
  ·have a4:L'.count j=0:=Nat.eq_zero_of_not_pos fun e2=>hj2 (List.count_pos_iff.1 e2)
   by_cases hjp:j=pz
   ·rw [hjp];exact Or.inr hp1
   ·have a5:[pz].count j=0:=Nat.eq_zero_of_not_pos fun e2=>hjp (List.mem_singleton.1 (List.count_pos_iff.1 e2))
    exact Or.inl (cnt_mem.2 (by omega))
theorem KInv.note {W0:World} {p s:Nat} {k:KI} {w:World} {g cap n:Nat} {x:Int} (h:KInv W0 p s k w) (hv:k.vh= .slice (some ⟨g,0,none⟩) k.hd.length cap) (_hn:n<k.hd.length) (hx:0≤x∧x≤1073741824):
  KInv W0 p s {k with hd:=k.hd.set n x} (w.setCell ⟨g,n,none⟩ (.int .i64 x)):=by
 have hle:=h.le;have hvh:gl k.vh=[g]:=by rw [hv];rfl
 have bA:But (gl k.vh) w (w.setCell ⟨g,n,none⟩ (.int .i64 x)):=(But.refl _ _).set (by rw [hvh];simp) _;have K:=h.keep _ bA (fun j hj=>cnt_mem.2 (by rw [KI.count];have:=cnt_mem.1 hj;omega))
 have hout:∀L:List Nat,(∀j,(gl k.vh).count j+L.count j≤1)→∀j∈L,j∉gl k.vh:=fun L hL j hj e=>by
  have a1:=cnt_mem.1 e;have a2:=hL j;have a3:=cnt_mem.1 hj;omega
 have hpN:p∉gl k.vh:=hout [p] (fun j=>by have:=hle j;omega) p (by simp);refine ⟨K.at_ hpN,h.nd,h.inM,K.lt,K.bel,K.svc (fun j hj e=>hout _ (fun j=>by have:=hle j;omega) j e hj),K.pool,h.good,h.cok,h.onok,h.gen,K.went (hout _ (fun j=>by have:=hle j;omega)),h.wlen,K.wrow,K.speaks (hout _ (fun j=>by have:=hle j;omega)),?_,h.slen,by show (k.hd.set n x).length+k.dh=_;rw [List.length_set];exact h.hlen,fun y hy=>?_,K.frames (hout _ (fun j=>by have:=hle j;omega)),h.flen,h.fsz,h.isz⟩
 ·show OwnI W0.heap.size _ k.vh (k.hd.set n x);have q0:=h.held;unfold OwnI at q0 ⊢;rw [hv] at q0 ⊢;have q1:=(World.ownsRow.stored q0 n (.int .i64 x)).1;simpa [List.map_set] using q1
 ·rcases List.mem_or_eq_of_mem_set hy with e|e
  ·exact h.hrng y e
  ·rw [e];exact hx
end Go.Proofs.YtpapdkhjdelfcabGreat
