import Derived.Test.YtpapdkhjdelfcabGreatSAE
import Derived.Test.YtpapdkhjdelfcabGreatSAD
set_option maxRecDepth 100000
set_option maxHeartbeats 4000000
namespace Go.Proofs.YtpapdkhjdelfcabGreat
open Go.RowKit
def cfgA:Cfg:=⟨1,7,1,1,⟨#[48,49,50,51,52,53,54,55,56,57,97,98,99,100,101,102]⟩,3⟩
def nA:ByteArray:=⟨#[97]⟩
def nB:ByteArray:=⟨#[98]⟩
theorem cfgA_ok:cfgA.OK:=by
 refine ⟨by decide,by decide,by decide,by decide,?_,by decide,by decide,by decide,by decide,by decide,by decide,by decide⟩;intro d h1 h2;have hd:d<7:=by simp only [cfgA] at h2;omega
 rcases (show d=2∨d=3∨d=4∨d=5∨d=6 by omega) with rfl|rfl|rfl|rfl|rfl <;>decide
theorem alive_mag:maglevF cfgA [(nA,1),(nB,1)]=[0,1,0,0,0,1,1]:=by decide+kernel
theorem alive_mk:mkF cfgA [(nA,1),(nB,1)]=[(0,0),(0,1),(0,0),(0,0),(0,0),(0,1),(0,1)]:=by
 rw [mkF,if_neg (by decide),if_pos (show cfgA.alg=1 from rfl),alive_mag];rfl
theorem alive_names:namesF [(nA,1),(nB,1)] (mkF cfgA [(nA,1),(nB,1)])=[nA,nB,nA,nA,nA,nB,nB]:=by rw [alive_mk];rfl
theorem alive_add1:addE [] nB 1=0∧addB [] nB 1=[(nB,1)]:=⟨by decide+kernel,rfl⟩
theorem alive_add2:addE [(nB,1)] nA 1=0∧addB [(nB,1)] nA 1=[(nA,1),(nB,1)]:=by
 have he:addE [(nB,1)] nA 1=0:=by decide+kernel
 refine ⟨he,?_⟩;unfold addB;rw [if_pos he];have hl:less nA nB=true:=by decide+kernel
 simp [ins,hl]
theorem alive_is (w:World):Calls Tryz.prog 20 #[] w (RBool w fun x=>x=true):=by
 have hnw:=fun wx=>new_is cfgA wx cfgA_ok
 rw [show cfgA.cells=#[.int .i64 1,.int .i64 7,.int .i64 1,.int .i64 1,.string ⟨#[48,49,50,51,52,53,54,55,56,57,97,98,99,100,101,102]⟩,.int .i64 3] from rfl] at hnw;go_enter Tryz.func20,Tryz.ntmps20;go_wp2_with fail;refine (hnw _).mono ?_;rintro e w1 ⟨q,rfl,hb1,hq1,hq2,hS1⟩;have hS1:=hS1 [q] (by simp);have hb01:Bel w w1:=(Bel.step_alloc (Bel.refl w) _).trans hb1;have hqw:w.heap.size≤q:=by simp at hq1;omega
 have ha1:=add_is [q] q cfgA [] 0 nB 1 w1 hS1 (by simpa using hq2) cfgA_ok Good.nil (by omega) (by omega);rw [alive_add1.1,alive_add1.2] at ha1;simp only [if_true,nB] at ha1;clear hnw;go_wp2_with fail;refine ha1.mono ?_;rintro e w2 ⟨rfl,hbt2,hS2⟩;have hG1:Good [(nB,(1:Int))]:=by have:=Good.nil.add nB 1;rwa [alive_add1.2] at this
 have ha2:=add_is [q] q cfgA [(nB,1)] (0+1) nA 1 w2 hS2 (by simpa using hS2.lt) cfgA_ok hG1 (by omega) (by omega);rw [alive_add2.1,alive_add2.2] at ha2;simp only [if_true] at ha2;rw [show nA=⟨#[97]⟩ from rfl] at ha2;clear ha1;go_wp2_with fail;refine ha2.mono ?_;rintro e w3 ⟨rfl,hbt3,hS3⟩;have hG2:Good [(nA,(1:Int)),(nB,1)]:=by have:=hG1.add nA 1;rwa [alive_add2.2] at this
 have hsl:=slots_is [q] q cfgA [(nA,1),(nB,1)] (0+1+1) w3 hS3 (mkF_len cfgA _ cfgA_ok hG2.1);rw [alive_names] at hsl;have hb03:Bel w w3:=But.belTo (But.belTo hb01 hbt2 (by simpa using hqw)) hbt3 (by simpa using hqw);clear ha2 hS1 hS2 hS3 hG1 hG2 hbt2 hbt3;go_wp2_with fail;refine hsl.mono ?_;rintro e w4 ⟨vL,rfl,hb4,hO, -⟩;obtain ⟨g,cap,hv,hg1,hg2⟩:=World.ownsRow.form hO (by simp);subst hv;have hcl:=fun j u (hj:([nA,nB,nA,nA,nA,nB,nB].map Value.string)[j]?=some u)=>World.ownsRow.cells hO (g:=g) rfl j u hj
 have hadd:∀j,(⟨g,0,none⟩:Addr).add j=⟨g,j,none⟩:=fun j=>by unfold Addr.add;split <;>simp_all
 have y0:=hcl 0 _ rfl;have y1:=hcl 1 _ rfl;have y2:=hcl 2 _ rfl;have y3:=hcl 3 _ rfl;have y4:=hcl 4 _ rfl;have y5:=hcl 5 _ rfl;have y6:=hcl 6 _ rfl;rw [hadd] at y0 y1 y2 y3 y4 y5 y6;simp only [nA,nB] at y0 y1 y2 y3 y4 y5 y6;clear hcl hadd hsl hO;go_wp2;refine wp_loop_rounds 8 ?_;rw [rounds_succ];go_wp2;rw [rounds_succ];go_wp2;rw [rounds_succ];go_wp2;rw [rounds_succ];go_wp2;rw [rounds_succ];go_wp2;rw [rounds_succ];go_wp2;rw [rounds_succ];go_wp2;rw [rounds_succ];go_wp2;go_ret;exact ⟨_,rfl,hb03.trans hb4,by decide+kernel⟩
end Go.Proofs.YtpapdkhjdelfcabGreat

namespace Go.Proofs.YtpapdkhjdelfcabGreat
open Go.RowKit
theorem mask_app {K M:List Nat} {w:World} (h:∀j∈K,j∈M∨w.heap.size≤j):mask (K++M) w=mask M w:=
 mask_ext (fun _ hk=>List.mem_append_right _ hk) (fun k hk=>(List.mem_append.1 hk).elim (h k) Or.inl)
theorem WentR.app {K M:List Nat} {w:World} {on:Cfg} {vr:List Value} {bs:List (List BK)} (h:WentR M w on vr bs) (hK:∀j∈K,j∈M∨w.heap.size≤j):WentR (K++M) w on vr bs:=⟨h.1,fun i v X hv hX=>by rw [mask_app hK];exact h.2 i v X hv hX⟩
theorem KInv.svcTo {W0:World} {p s:Nat} {k:KI} {w w':World} (h:KInv W0 p s k w) (N:List Nat) (b:But N w w') (hN:∀j∈N,j∈k.svp.own k.q) (L':List Nat) (pp':List (Nat×Pln×List Nat)) (K:List Nat) (hK:∀j∈K,(j∈k.M∨w.heap.size≤j)∧j<w'.heap.size) (hS:SvpAt (K++k.M) k.q ⟨k.on,k.B,k.g,L',pp'⟩ w')
  (hnew:∀j∈(Svp.mk k.on k.B k.g L' pp').own k.q,j∈k.svp.own k.q∨w.heap.size≤j) (d:Nat) (hl:pp'.length=k.pp.length+d):KInv W0 p s {k with M:=K++k.M,L:=L',pp:=pp',ds:=k.ds+d,dh:=k.dh+d} w':=by
 have hle:=h.le;have hNb:∀j∈N,j∈k.blocks p:=fun j hj=>cnt_mem.2 (by rw [KI.count];have:=cnt_mem.1 (hN j hj);omega)
 have Kp:=h.keep N b hNb
 have hout:∀L:List Nat,(∀j,(k.svp.own k.q).count j+L.count j≤1)→∀j∈L,j∉N:=fun L hL j hj e=>by
  have a1:=cnt_mem.1 (hN j e);have a2:=hL j;have a3:=cnt_mem.1 hj;omega
 have hpN:p∉N:=hout [p] (fun j=>by have:=hle j;omega) p (by simp);have hK1:∀j∈K,j∈k.M∨w.heap.size≤j:=fun j hj=>(hK j hj).1
 have hNM:∀j∈N,j∈K++k.M∨w.heap.size≤j:=fun j hj=>Or.inl (List.mem_append_right _ (h.inM j (hNb j hj)))
 have hW0:=h.bel.size
 have hP:PoolAt (mask (K++k.M) w') k.vb k.B:=by
  have:=h.pool;rw [←mask_app hK1] at this;exact this.later (b.mono hNM)
 refine ⟨Kp.at_ hpN,List.nodup_iff_count.2 fun a=>?_,fun j hj=>?_,fun j hj=>?_,Kp.bel,hS,hP,h.good,h.cok,h.onok,h.gen,Kp.went (hout _ (fun j=>by have:=hle j;omega)),h.wlen,(h.wrow.app hK1).but b hNM,Kp.speaks (hout _ (fun j=>by have:=hle j;omega)),Kp.held (hout _ (fun j=>by have:=hle j;omega)),by show k.sp.length+(k.ds+d)=pp'.length;have:=h.slen;omega,by show k.hd.length+(k.dh+d)=pp'.length;have:=h.hlen;omega,h.hrng,Kp.frames (hout _ (fun j=>by have:=hle j;omega)),h.flen,h.fsz,h.isz⟩
 ·have a0:(KI.blocks {k with M:=K++k.M,L:=L',pp:=pp',ds:=k.ds+d,dh:=k.dh+d} p).count a=[p].count a+(gl k.vw).count a+(gl k.vs).count a+(gl k.vh).count a+(gl k.vf).count a+((Svp.mk k.on k.B k.g L' pp').own k.q).count a:=KI.count _ p a;rw [a0];have a1:=hle a;have a2:=cnt_le hS.nodup a;by_cases hm:a∈(Svp.mk k.on k.B k.g L' pp').own k.q
  ·rcases hnew a hm with e|e
   ·have:=cnt_mem.1 e;omega
   ·have a3:(k.blocks p).count a=0:=Nat.eq_zero_of_not_pos fun e2=>by
     have:=(h.lt a (h.inM a (List.count_pos_iff.1 e2))).2;omega
    rw [KI.count] at a3
    omega
  ·have a3:((Svp.mk k.on k.B k.g L' pp').own k.q).count a=0:=Nat.eq_zero_of_not_pos fun e2=>hm (List.count_pos_iff.1 e2)
   omega
 ·have a0:=cnt_mem.1 hj;have a9:(KI.blocks {k with M:=K++k.M,L:=L',pp:=pp',ds:=k.ds+d,dh:=k.dh+d} p).count j=[p].count j+(gl k.vw).count j+(gl k.vs).count j+(gl k.vh).count j+(gl k.vf).count j+((Svp.mk k.on k.B k.g L' pp').own k.q).count j:=KI.count _ p j;rw [a9] at a0;by_cases hm:j∈(Svp.mk k.on k.B k.g L' pp').own k.q
  ·exact hS.inM j hm
  ·have a3:((Svp.mk k.on k.B k.g L' pp').own k.q).count j=0:=Nat.eq_zero_of_not_pos fun e2=>hm (List.count_pos_iff.1 e2)
   refine List.mem_append_right _ (h.inM j (cnt_mem.2 ?_));rw [KI.count];omega
 ·rcases List.mem_append.1 hj with hj|hj
  ·refine ⟨?_,(hK j hj).2⟩;rcases (hK j hj).1 with e|e
   ·exact (h.lt j e).1
   ·omega
  ·exact Kp.lt j hj
theorem KInv.plane {W0:World} {p s:Nat} {k:KI} {w w':World} {n:Nat} {p':Pln} {e:Ending} (h:KInv W0 p s k w) (hn:n<k.pp.length) (hr:RPlane k.M k.q k.svp n hn p' w e w'):∃R',KInv W0 p s {k with M:=R'++k.M,pp:=k.pp.set n (k.pp[n].1,p',R')} w':=by
 obtain ⟨-,R',hR,hb,hS⟩:=hr;have hone:=fun a=>blk_one hn a
 have hoc:=own_count k.svp k.q;have hset:=fun a=>blk_set a (k.pp[n].1,p',R') k.pp n hn
 have hin : ∀ j ∈ k.pp[n].1 :: k.pp[n].2.2, j ∈ k.svp.own k.q := fun j hj => cnt_mem.2 (by
   have a1 := cnt_mem.1 hj
   have a2 := hone j
   have a3 : ((k.svp.own k.q)).count j = [k.q].count j + k.L.count j + (blk k.pp).count j := hoc j
   omega)
 refine ⟨R',h.svcTo _ hb hin k.L (k.pp.set n (k.pp[n].1,p',R')) R' (fun j hj=>⟨(hR j hj).1.imp (fun e=>h.svc.inM j (hin j (List.mem_cons_of_mem _ e))) id,(hR j hj).2⟩) hS (fun j hj=>?_) 0 (by rw [List.length_set];rfl)⟩;have a0:=cnt_mem.1 hj;have a1:=own_count ⟨k.on,k.B,k.g,k.L,k.pp.set n (k.pp[n].1,p',R')⟩ k.q j;have a2:=hset j;have a3:((k.svp.own k.q)).count j=[k.q].count j+k.L.count j+(blk k.pp).count j:=hoc j;simp only at a1;by_cases ho:j∈k.svp.own k.q
 ·exact Or.inl ho
 ·have a4:(k.svp.own k.q).count j=0:=Nat.eq_zero_of_not_pos fun e2=>ho (List.count_pos_iff.1 e2)
  have a5:1≤(k.pp[n].1::R').count j:=by
   show 1≤((k.pp[n].1,p',R').1::(k.pp[n].1,p',R').2.2).count j;omega
  rcases List.mem_cons.1 (cnt_mem.2 a5) with e|e
  ·exact Or.inl (hin j (by rw [e];exact List.mem_cons_self))
  ·exact (hR j e).1.imp (fun e=>hin j (List.mem_cons_of_mem _ e)) id
theorem KInv.frame {W0:World} {p s:Nat} {k:KI} {w w1:World} {g cap:Nat} {S:ByteArray} (h:KInv W0 p s k w) (hb:But (gl k.vf) w w1) (hrow:w1.ownsRow W0.heap.size 9 1 (.slice (some ⟨g,0,none⟩) (k.fr.length+1) cap) (k.fr.length+1) (k.fr.map Value.string++[.string S])) (hat:k.vf.ownBlock=some g∨w.heap.size≤g) (hS:S.size≤1099511627776):
  KInv W0 p s {k with M:=g::k.M,vf:= .slice (some ⟨g,0,none⟩) (k.fr.length+1) cap,fr:=k.fr++[S],fb:=k.fb+1} (w1.setCell ⟨p,18,none⟩ (.slice (some ⟨g,0,none⟩) (k.fr.length+1) cap)):=by
 have hle:=h.le;have hpM:=h.inM _ h.p_in;have h1p:1≤[p].count p:=cnt_mem.1 (by simp);have hvfb:∀j∈gl k.vf,j∈k.blocks p:=fun j hj=>cnt_mem.2 (by rw [KI.count];have:=cnt_mem.1 hj;omega)
 have hvf:gl k.vf=k.vf.ownBlock.toList:=rfl;have b3:But [p] w1 (w1.setCell ⟨p,18,none⟩ (.slice (some ⟨g,0,none⟩) (k.fr.length+1) cap)):=(But.refl _ _).set (by simp) _;have hpf:p∉gl k.vf:=fun e=>by have:=hle p;have:=cnt_mem.1 e;omega
 have hW:=(h.at_.but hb hpf).set 18 (.slice (some ⟨g,0,none⟩) (k.fr.length+1) cap);have hgl:g<w1.heap.size:=(World.ownsRow.lt hrow g rfl).2;have hg0:W0.heap.size≤g:=(World.ownsRow.lt hrow g rfl).1;generalize hwF:w1.setCell ⟨p,18,none⟩ (.slice (some ⟨g,0,none⟩) (k.fr.length+1) cap)=wF at *;have bA:But (p::gl k.vf) w wF:=(hb.mono (fun j hj=>Or.inl (List.mem_cons_of_mem _ hj))).trans (b3.mono (fun j hj=>Or.inl (by rw [List.mem_singleton.1 hj];simp)))
 have hNb:∀j∈p::gl k.vf,j∈k.blocks p:=fun j hj=>by
  rcases List.mem_cons.1 hj with e|hj
  ·rw [e];exact h.p_in
  ·exact hvfb j hj
 have K:=h.keep _ bA hNb
 have hN0:∀j∈p::gl k.vf,1≤[p].count j+(gl k.vf).count j:=fun j hj=>by
  rcases List.mem_cons.1 hj with e|hj
  ·rw [e];omega
  ·have:=cnt_mem.1 hj;omega
 have hout:∀L:List Nat,(∀j,[p].count j+(gl k.vf).count j+L.count j≤1)→∀j∈L,j∉p::gl k.vf:=fun L hL j hj e=>by
  have a1:=hN0 j e;have a2:=hL j;have a3:=cnt_mem.1 hj;omega
 have hgM:g∈k.M∨w.heap.size≤g:=hat.imp (fun e=>h.inM g (hvfb g (by rw [hvf,e];simp))) id;have hNM:∀j∈p::gl k.vf,j∈g::k.M∨w.heap.size≤j:=fun j hj=>Or.inl (List.mem_cons_of_mem _ (h.inM j (hNb j hj)))
 have hgp:g≠p:=fun e=>by
  rcases hat with h1|h1
  ·have:=hle p;have a3:1≤(gl k.vf).count p:=cnt_mem.1 (by rw [hvf,h1,e];simp);omega
  ·have:=(h.lt p hpM).2;omega
 have hsvO:∀j∈p::gl k.vf,j∉k.svp.own k.q:=fun j hj e=>by
  have a1:=hN0 j hj;have a2:=hle j;have a3:=cnt_mem.1 e;omega
 have hS0 := (h.svc.wide (M' := g :: k.M) (fun _ hk => List.mem_cons_of_mem _ hk) (fun j hj => by
   rcases List.mem_cons.1 hj with e | e
   · rw [e]; exact hgM
   · exact Or.inl e)).but bA hsvO hNM
 have hP:PoolAt (mask (g::k.M) wF) k.vb k.B:=by
  have:=h.pool;rw [←mask_cons hgM] at this;exact this.later (bA.mono hNM)
 have z3:=b3.size;refine ⟨hW,List.nodup_iff_count.2 fun a=>?_,fun j hj=>?_,fun j hj=>?_,K.bel,hS0,hP,h.good,h.cok,h.onok,h.gen,K.went (hout _ (fun j=>by have:=hle j;omega)),h.wlen,(h.wrow.cons hgM).but bA hNM,K.speaks (hout _ (fun j=>by have:=hle j;omega)),K.held (hout _ (fun j=>by have:=hle j;omega)),h.slen,h.hlen,h.hrng,?_,by show (k.fr++[S]).length≤k.fb+1;have:=h.flen;simp;omega,fun t ht=>?_,h.isz⟩
 ·have a0:(KI.blocks {k with M:=g::k.M,vf:= .slice (some ⟨g,0,none⟩) (k.fr.length+1) cap,fr:=k.fr++[S],fb:=k.fb+1} p).count a=[p].count a+(gl k.vw).count a+(gl k.vs).count a+(gl k.vh).count a+[g].count a+(k.svp.own k.q).count a:=KI.count _ p a;rw [a0];have a1:=hle a;rcases hat with e|e
  ·have a2:(gl k.vf).count a=[g].count a:=by rw [hvf,e];rfl
   omega
  ·by_cases hag:g=a
   ·subst hag
    have a3:(k.blocks p).count g=0:=Nat.eq_zero_of_not_pos fun e2=>by
     have:=(h.lt g (h.inM g (List.count_pos_iff.1 e2))).2;omega
    rw [KI.count] at a3;have a4:[g].count g≤1:=cnt_le (by simp) g;omega
   ·have a4:[g].count a=0:=Nat.eq_zero_of_not_pos fun e2=>hag (List.mem_singleton.1 (List.count_pos_iff.1 e2)).symm
    omega
 ·have a0:=cnt_mem.1 hj;have a1:(KI.blocks {k with M:=g::k.M,vf:= .slice (some ⟨g,0,none⟩) (k.fr.length+1) cap,fr:=k.fr++[S],fb:=k.fb+1} p).count j=[p].count j+(gl k.vw).count j+(gl k.vs).count j+(gl k.vh).count j+[g].count j+(k.svp.own k.q).count j:=KI.count _ p j;rw [a1] at a0;by_cases hag:j=g
  ·rw [hag];exact List.mem_cons_self
  ·refine List.mem_cons_of_mem _ (h.inM j (cnt_mem.2 ?_));rw [KI.count];have a4:[g].count j=0:=Nat.eq_zero_of_not_pos fun e2=>hag (List.mem_singleton.1 (List.count_pos_iff.1 e2))
   omega
 ·rcases List.mem_cons.1 hj with e|hj
  ·rw [e];exact ⟨hg0,by omega⟩
  ·exact K.lt j hj
 ·have := ownB_but hrow b3 (fun j hj e => by
    rw [gl_sl] at hj
    exact hgp (by rw [← List.mem_singleton.1 hj, List.mem_singleton.1 e]))
  simpa using this
 ·rcases List.mem_append.1 ht with ht|ht
  ·exact h.fsz t ht
  ·rw [List.mem_singleton.1 ht];exact hS
theorem KInv.heldApp {W0:World} {p s:Nat} {k:KI} {w w1:World} {g cap:Nat} {x:Int} (h:KInv W0 p s k w) (hb:But (gl k.vh) w w1) (hrow:w1.ownsRow W0.heap.size 3 1 (.slice (some ⟨g,0,none⟩) (k.hd.length+1) cap) (k.hd.length+1) (k.hd.map (Value.int .i64)++[.int .i64 x])) (hat:k.vh.ownBlock=some g∨w.heap.size≤g) (hx:0≤x∧x≤1073741824) (hd1:1≤k.dh):
  KInv W0 p s {k with M:=g::k.M,vh:= .slice (some ⟨g,0,none⟩) (k.hd.length+1) cap,hd:=k.hd++[x],dh:=k.dh - 1} (w1.setCell ⟨p,17,none⟩ (.slice (some ⟨g,0,none⟩) (k.hd.length+1) cap)):=by
 have hle:=h.le;have hpM:=h.inM _ h.p_in;have h1p:1≤[p].count p:=cnt_mem.1 (by simp);have hvfb:∀j∈gl k.vh,j∈k.blocks p:=fun j hj=>cnt_mem.2 (by rw [KI.count];have:=cnt_mem.1 hj;omega)
 have hvf:gl k.vh=k.vh.ownBlock.toList:=rfl;have b3:But [p] w1 (w1.setCell ⟨p,17,none⟩ (.slice (some ⟨g,0,none⟩) (k.hd.length+1) cap)):=(But.refl _ _).set (by simp) _;have hpf:p∉gl k.vh:=fun e=>by have:=hle p;have:=cnt_mem.1 e;omega
 have hW:=(h.at_.but hb hpf).set 17 (.slice (some ⟨g,0,none⟩) (k.hd.length+1) cap);have hgl:g<w1.heap.size:=(World.ownsRow.lt hrow g rfl).2;have hg0:W0.heap.size≤g:=(World.ownsRow.lt hrow g rfl).1;generalize hwF:w1.setCell ⟨p,17,none⟩ (.slice (some ⟨g,0,none⟩) (k.hd.length+1) cap)=wF at *;have bA:But (p::gl k.vh) w wF:=(hb.mono (fun j hj=>Or.inl (List.mem_cons_of_mem _ hj))).trans (b3.mono (fun j hj=>Or.inl (by rw [List.mem_singleton.1 hj];simp)))
 have hNb:∀j∈p::gl k.vh,j∈k.blocks p:=fun j hj=>by
  rcases List.mem_cons.1 hj with e|hj
  ·rw [e];exact h.p_in
  ·exact hvfb j hj
 have K:=h.keep _ bA hNb
 have hN0:∀j∈p::gl k.vh,1≤[p].count j+(gl k.vh).count j:=fun j hj=>by
  rcases List.mem_cons.1 hj with e|hj
  ·rw [e];omega
  ·have:=cnt_mem.1 hj;omega
 have hout:∀L:List Nat,(∀j,[p].count j+(gl k.vh).count j+L.count j≤1)→∀j∈L,j∉p::gl k.vh:=fun L hL j hj e=>by
  have a1:=hN0 j e;have a2:=hL j;have a3:=cnt_mem.1 hj;omega
 have hgM:g∈k.M∨w.heap.size≤g:=hat.imp (fun e=>h.inM g (hvfb g (by rw [hvf,e];simp))) id;have hNM:∀j∈p::gl k.vh,j∈g::k.M∨w.heap.size≤j:=fun j hj=>Or.inl (List.mem_cons_of_mem _ (h.inM j (hNb j hj)))
 have hgp:g≠p:=fun e=>by
  rcases hat with h1|h1
  ·have:=hle p;have a3:1≤(gl k.vh).count p:=cnt_mem.1 (by rw [hvf,h1,e];simp);omega
  ·have:=(h.lt p hpM).2;omega
 have hsvO:∀j∈p::gl k.vh,j∉k.svp.own k.q:=fun j hj e=>by
  have a1:=hN0 j hj;have a2:=hle j;have a3:=cnt_mem.1 e;omega
 have hS0 := (h.svc.wide (M' := g :: k.M) (fun _ hk => List.mem_cons_of_mem _ hk) (fun j hj => by
   rcases List.mem_cons.1 hj with e | e
   · rw [e]; exact hgM
   · exact Or.inl e)).but bA hsvO hNM
 have hP:PoolAt (mask (g::k.M) wF) k.vb k.B:=by
  have:=h.pool;rw [←mask_cons hgM] at this;exact this.later (bA.mono hNM)
 have z3:=b3.size;refine ⟨hW,List.nodup_iff_count.2 fun a=>?_,fun j hj=>?_,fun j hj=>?_,K.bel,hS0,hP,h.good,h.cok,h.onok,h.gen,K.went (hout _ (fun j=>by have:=hle j;omega)),h.wlen,(h.wrow.cons hgM).but bA hNM,K.speaks (hout _ (fun j=>by have:=hle j;omega)),?_,h.slen,by show (k.hd++[x]).length+(k.dh - 1)=k.pp.length;have:=h.hlen;simp;omega,fun t ht=>?_,K.frames (hout _ (fun j=>by have:=hle j;omega)),h.flen,h.fsz,h.isz⟩
 ·have a0:(KI.blocks {k with M:=g::k.M,vh:= .slice (some ⟨g,0,none⟩) (k.hd.length+1) cap,hd:=k.hd++[x],dh:=k.dh - 1} p).count a=[p].count a+(gl k.vw).count a+(gl k.vs).count a+[g].count a+(gl k.vf).count a+(k.svp.own k.q).count a:=KI.count _ p a;rw [a0];have a1:=hle a;rcases hat with e|e
  ·have a2:(gl k.vh).count a=[g].count a:=by rw [hvf,e];rfl
   omega
  ·by_cases hag:g=a
   ·subst hag
    have a3:(k.blocks p).count g=0:=Nat.eq_zero_of_not_pos fun e2=>by
     have:=(h.lt g (h.inM g (List.count_pos_iff.1 e2))).2;omega
    rw [KI.count] at a3;have a4:[g].count g≤1:=cnt_le (by simp) g;omega
   ·have a4:[g].count a=0:=Nat.eq_zero_of_not_pos fun e2=>hag (List.mem_singleton.1 (List.count_pos_iff.1 e2)).symm
    omega
 ·have a0:=cnt_mem.1 hj;have a1:(KI.blocks {k with M:=g::k.M,vh:= .slice (some ⟨g,0,none⟩) (k.hd.length+1) cap,hd:=k.hd++[x],dh:=k.dh - 1} p).count j=[p].count j+(gl k.vw).count j+(gl k.vs).count j+[g].count j+(gl k.vf).count j+(k.svp.own k.q).count j:=KI.count _ p j;rw [a1] at a0;by_cases hag:j=g
  ·rw [hag];exact List.mem_cons_self
  ·refine List.mem_cons_of_mem _ (h.inM j (cnt_mem.2 ?_));rw [KI.count];have a4:[g].count j=0:=Nat.eq_zero_of_not_pos fun e2=>hag (List.mem_singleton.1 (List.count_pos_iff.1 e2))
   omega
 ·rcases List.mem_cons.1 hj with e|hj
  ·rw [e];exact ⟨hg0,by omega⟩
  ·exact K.lt j hj
 ·have := ownB_but hrow b3 (fun j hj e => by
    rw [gl_sl] at hj
    exact hgp (by rw [← List.mem_singleton.1 hj, List.mem_singleton.1 e]))
  show OwnI W0.heap.size wF (.slice (some ⟨g,0,none⟩) (k.hd.length+1) cap) (k.hd++[x])
  unfold OwnI
  simpa using this
 ·rcases List.mem_append.1 ht with ht|ht
  ·exact h.hrng t ht
  ·rw [List.mem_singleton.1 ht];exact hx
theorem KInv.spApp {W0:World} {p s:Nat} {k:KI} {w w1:World} {g cap:Nat} {x:Int} (h:KInv W0 p s k w) (hb:But (gl k.vs) w w1) (hrow:w1.ownsRow W0.heap.size 3 1 (.slice (some ⟨g,0,none⟩) (k.sp.length+1) cap) (k.sp.length+1) (k.sp.map (Value.int .i64)++[.int .i64 x])) (hat:k.vs.ownBlock=some g∨w.heap.size≤g) (hd1:1≤k.ds):
  KInv W0 p s {k with M:=g::k.M,vs:= .slice (some ⟨g,0,none⟩) (k.sp.length+1) cap,sp:=k.sp++[x],ds:=k.ds - 1} (w1.setCell ⟨p,16,none⟩ (.slice (some ⟨g,0,none⟩) (k.sp.length+1) cap)):=by
 have hle:=h.le;have hpM:=h.inM _ h.p_in;have h1p:1≤[p].count p:=cnt_mem.1 (by simp);have hvfb:∀j∈gl k.vs,j∈k.blocks p:=fun j hj=>cnt_mem.2 (by rw [KI.count];have:=cnt_mem.1 hj;omega)
 have hvf:gl k.vs=k.vs.ownBlock.toList:=rfl;have b3:But [p] w1 (w1.setCell ⟨p,16,none⟩ (.slice (some ⟨g,0,none⟩) (k.sp.length+1) cap)):=(But.refl _ _).set (by simp) _;have hpf:p∉gl k.vs:=fun e=>by have:=hle p;have:=cnt_mem.1 e;omega
 have hW:=(h.at_.but hb hpf).set 16 (.slice (some ⟨g,0,none⟩) (k.sp.length+1) cap);have hgl:g<w1.heap.size:=(World.ownsRow.lt hrow g rfl).2;have hg0:W0.heap.size≤g:=(World.ownsRow.lt hrow g rfl).1;generalize hwF:w1.setCell ⟨p,16,none⟩ (.slice (some ⟨g,0,none⟩) (k.sp.length+1) cap)=wF at *;have bA:But (p::gl k.vs) w wF:=(hb.mono (fun j hj=>Or.inl (List.mem_cons_of_mem _ hj))).trans (b3.mono (fun j hj=>Or.inl (by rw [List.mem_singleton.1 hj];simp)))
 have hNb:∀j∈p::gl k.vs,j∈k.blocks p:=fun j hj=>by
  rcases List.mem_cons.1 hj with e|hj
  ·rw [e];exact h.p_in
  ·exact hvfb j hj
 have K:=h.keep _ bA hNb
 have hN0:∀j∈p::gl k.vs,1≤[p].count j+(gl k.vs).count j:=fun j hj=>by
  rcases List.mem_cons.1 hj with e|hj
  ·rw [e];omega
  ·have:=cnt_mem.1 hj;omega
 have hout:∀L:List Nat,(∀j,[p].count j+(gl k.vs).count j+L.count j≤1)→∀j∈L,j∉p::gl k.vs:=fun L hL j hj e=>by
  have a1:=hN0 j e;have a2:=hL j;have a3:=cnt_mem.1 hj;omega
 have hgM:g∈k.M∨w.heap.size≤g:=hat.imp (fun e=>h.inM g (hvfb g (by rw [hvf,e];simp))) id;have hNM:∀j∈p::gl k.vs,j∈g::k.M∨w.heap.size≤j:=fun j hj=>Or.inl (List.mem_cons_of_mem _ (h.inM j (hNb j hj)))
 have hgp:g≠p:=fun e=>by
  rcases hat with h1|h1
  ·have:=hle p;have a3:1≤(gl k.vs).count p:=cnt_mem.1 (by rw [hvf,h1,e];simp);omega
  ·have:=(h.lt p hpM).2;omega
 have hsvO:∀j∈p::gl k.vs,j∉k.svp.own k.q:=fun j hj e=>by
  have a1:=hN0 j hj;have a2:=hle j;have a3:=cnt_mem.1 e;omega
 have hS0 := (h.svc.wide (M' := g :: k.M) (fun _ hk => List.mem_cons_of_mem _ hk) (fun j hj => by
   rcases List.mem_cons.1 hj with e | e
   · rw [e]; exact hgM
   · exact Or.inl e)).but bA hsvO hNM
 have hP:PoolAt (mask (g::k.M) wF) k.vb k.B:=by
  have:=h.pool;rw [←mask_cons hgM] at this;exact this.later (bA.mono hNM)
 have z3:=b3.size;refine ⟨hW,List.nodup_iff_count.2 fun a=>?_,fun j hj=>?_,fun j hj=>?_,K.bel,hS0,hP,h.good,h.cok,h.onok,h.gen,K.went (hout _ (fun j=>by have:=hle j;omega)),h.wlen,(h.wrow.cons hgM).but bA hNM,?_,K.held (hout _ (fun j=>by have:=hle j;omega)),by show (k.sp++[x]).length+(k.ds - 1)=k.pp.length;have:=h.slen;simp;omega,h.hlen,h.hrng,K.frames (hout _ (fun j=>by have:=hle j;omega)),h.flen,h.fsz,h.isz⟩
 ·have a0:(KI.blocks {k with M:=g::k.M,vs:= .slice (some ⟨g,0,none⟩) (k.sp.length+1) cap,sp:=k.sp++[x],ds:=k.ds - 1} p).count a=[p].count a+(gl k.vw).count a+[g].count a+(gl k.vh).count a+(gl k.vf).count a+(k.svp.own k.q).count a:=KI.count _ p a;rw [a0];have a1:=hle a;rcases hat with e|e
  ·have a2:(gl k.vs).count a=[g].count a:=by rw [hvf,e];rfl
   omega
  ·by_cases hag:g=a
   ·subst hag
    have a3:(k.blocks p).count g=0:=Nat.eq_zero_of_not_pos fun e2=>by
     have:=(h.lt g (h.inM g (List.count_pos_iff.1 e2))).2;omega
    rw [KI.count] at a3;have a4:[g].count g≤1:=cnt_le (by simp) g;omega
   ·have a4:[g].count a=0:=Nat.eq_zero_of_not_pos fun e2=>hag (List.mem_singleton.1 (List.count_pos_iff.1 e2)).symm
    omega
 ·have a0:=cnt_mem.1 hj;have a1:(KI.blocks {k with M:=g::k.M,vs:= .slice (some ⟨g,0,none⟩) (k.sp.length+1) cap,sp:=k.sp++[x],ds:=k.ds - 1} p).count j=[p].count j+(gl k.vw).count j+[g].count j+(gl k.vh).count j+(gl k.vf).count j+(k.svp.own k.q).count j:=KI.count _ p j;rw [a1] at a0;by_cases hag:j=g
  ·rw [hag];exact List.mem_cons_self
  ·refine List.mem_cons_of_mem _ (h.inM j (cnt_mem.2 ?_));rw [KI.count];have a4:[g].count j=0:=Nat.eq_zero_of_not_pos fun e2=>hag (List.mem_singleton.1 (List.count_pos_iff.1 e2))
   omega
 ·rcases List.mem_cons.1 hj with e|hj
  ·rw [e];exact ⟨hg0,by omega⟩
  ·exact K.lt j hj
 ·have := ownB_but hrow b3 (fun j hj e => by
    rw [gl_sl] at hj
    exact hgp (by rw [← List.mem_singleton.1 hj, List.mem_singleton.1 e]))
  show OwnI W0.heap.size wF (.slice (some ⟨g,0,none⟩) (k.sp.length+1) cap) (k.sp++[x])
  unfold OwnI
  simpa using this
theorem KInv.joined {W0:World} {p s:Nat} {k:KI} {w w':World} {fm:Nat} {e:Ending} (h:KInv W0 p s k w) (hr:RJoinV k.M k.q k.svp fm w e w'):e= .returned (.tuple #[.int .i64 (k.pp.length:Int),.int .i64 0])∧∃K L' pz,KInv W0 p s {k with M:=K++k.M,L:=L',pp:=k.pp++[(pz,plnNew fm,[])],ds:=k.ds+1,dh:=k.dh+1} w':=by
 obtain ⟨pz,L',he,hb,⟨hp1,hp2⟩,hL,hS⟩:=hr;have hoc:=own_count k.svp k.q
 have e2:∀a,(blk (k.pp++[(pz,plnNew fm,[])])).count a=(blk k.pp).count a+[pz].count a:=fun a=>by
  unfold blk;rw [List.flatMap_append,List.count_append];rfl
 refine ⟨he,pz::L',L',pz,h.svcTo _ hb (fun j hj=>cnt_mem.2 ?_) L' (k.pp++[(pz,plnNew fm,[])]) (pz::L') (fun j hj=>?_) hS (fun j hj=>?_) 1 (by rw [List.length_append];rfl)⟩
 ·have a1:=cnt_mem.1 hj;have a3:(k.svp.own k.q).count j=[k.q].count j+k.L.count j+(blk k.pp).count j:=hoc j
  have a4:(k.q::k.svp.L).count j=[k.q].count j+k.L.count j:=by
   have:k.q::k.svp.L=[k.q]++k.L:=rfl;rw [this,List.count_append]
  omega
 ·rcases List.mem_cons.1 hj with e|hj
  ·rw [e];exact ⟨Or.inr hp1,hp2⟩
  ·refine ⟨(hL j hj).1.imp (fun e=>h.svc.inM j (cnt_mem.2 ?_)) id,(hL j hj).2⟩;have a3:(k.svp.own k.q).count j=[k.q].count j+k.L.count j+(blk k.pp).count j:=hoc j;have:=cnt_mem.1 (show j∈k.L from e);omega
 ·have a0:=cnt_mem.1 hj;have a1:((Svp.mk k.on k.B k.g L' (k.pp++[(pz,plnNew fm,[])])).own k.q).count j=[k.q].count j+L'.count j+(blk (k.pp++[(pz,plnNew fm,[])])).count j:=own_count _ k.q j;have a2:=e2 j;have a3:(k.svp.own k.q).count j=[k.q].count j+k.L.count j+(blk k.pp).count j:=hoc j;by_cases hj2:j∈L'
  ·refine (hL j hj2).1.imp (fun e=>cnt_mem.2 ?_) id;have:=cnt_mem.1 (show j∈k.L from e);omega
  ·have a4:L'.count j=0:=Nat.eq_zero_of_not_pos fun e2=>hj2 (List.count_pos_iff.1 e2)
   by_cases hjp:j=pz
   ·rw [hjp];exact Or.inr hp1
   ·have a5:[pz].count j=0:=Nat.eq_zero_of_not_pos fun e2=>hjp (List.mem_singleton.1 (List.count_pos_iff.1 e2))
    exact Or.inl (cnt_mem.2 (by omega))
theorem KInv.note {W0:World} {p s:Nat} {k:KI} {w:World} {g cap n:Nat} {x:Int} (h:KInv W0 p s k w) (hv:k.vh= .slice (some ⟨g,0,none⟩) k.hd.length cap) (_hn:n<k.hd.length) (hx:0≤x∧x≤1073741824):
  KInv W0 p s {k with hd:=k.hd.set n x} (w.setCell ⟨g,n,none⟩ (.int .i64 x)):=by
 have hle:=h.le;have hvh:gl k.vh=[g]:=by rw [hv];rfl
 have bA:But (gl k.vh) w (w.setCell ⟨g,n,none⟩ (.int .i64 x)):=(But.refl _ _).set (by rw [hvh];simp) _;have K:=h.keep _ bA (fun j hj=>cnt_mem.2 (by rw [KI.count];have:=cnt_mem.1 hj;omega))
 have hout:∀L:List Nat,(∀j,(gl k.vh).count j+L.count j≤1)→∀j∈L,j∉gl k.vh:=fun L hL j hj e=>by
  have a1:=cnt_mem.1 e;have a2:=hL j;have a3:=cnt_mem.1 hj;omega
 have hpN:p∉gl k.vh:=hout [p] (fun j=>by have:=hle j;omega) p (by simp);refine ⟨K.at_ hpN,h.nd,h.inM,K.lt,K.bel,K.svc (fun j hj e=>hout _ (fun j=>by have:=hle j;omega) j e hj),K.pool,h.good,h.cok,h.onok,h.gen,K.went (hout _ (fun j=>by have:=hle j;omega)),h.wlen,K.wrow,K.speaks (hout _ (fun j=>by have:=hle j;omega)),?_,h.slen,by show (k.hd.set n x).length+k.dh=_;rw [List.length_set];exact h.hlen,fun y hy=>?_,K.frames (hout _ (fun j=>by have:=hle j;omega)),h.flen,h.fsz,h.isz⟩
 ·show OwnI W0.heap.size _ k.vh (k.hd.set n x);have q0:=h.held;unfold OwnI at q0 ⊢;rw [hv] at q0 ⊢;have q1:=(World.ownsRow.stored q0 n (.int .i64 x)).1;simpa [List.map_set] using q1
 ·rcases List.mem_or_eq_of_mem_set hy with e|e
  ·exact h.hrng y e
  ·rw [e];exact hx
end Go.Proofs.YtpapdkhjdelfcabGreat

namespace Go.Proofs.YtpapdkhjdelfcabGreat
open Go.RowKit
structure KP where
 on:Cfg
 B:List BK
 g:Nat
 pl:List Pln
 fr:List ByteArray
def KI.pu (k:KI):KP:=⟨k.on,k.B,k.g.toNat,k.pp.map (fun y=>y.2.1),k.fr⟩
def tickT (p:Pln):ByteArray:=txt (tickB p.g p.fm p.cg p.cf p.T)
def KP.tick (x:KP) (n:Nat):ByteArray:=match x.pl[n]? with
 |some p=>tickT p
 |none=>⟨#[]⟩
def KP.serve (x:KP) (t:ByteArray):ByteArray:=txt (serveB x.on.formats.toNat x.g x.on x.B (mkF x.on x.B) t.data.toList)
noncomputable def KP.recv (x:KP) (n:Nat) (t:ByteArray):KP:=match x.pl[n]? with
 |some p=>{x with pl:=x.pl.set n (recvG p t.data.toList)}
 |none=>x
def KP.keep (x:KP) (t:ByteArray):KP:={x with fr:=x.fr++[t]}
structure KTo (k k':KI) (f:Nat):Prop where
 eq:k'={k with M:=k'.M,pp:=k'.pp,vf:=k'.vf,fr:=k'.fr,fb:=k'.fb}
 len:k'.pp.length=k.pp.length
 fb:k'.fb≤k.fb+f
 sl:(∀t∈k.fr,Seald t)→∀t∈k'.fr,Seald t
 tr:k.Tr→k'.Tr
theorem KTo.refl (k:KI) (f:Nat):KTo k k f:=⟨rfl,rfl,Nat.le_add_right _ _,id,id⟩
theorem KTo.trans {k k' k2:KI} {f f':Nat} (h1:KTo k k' f) (h2:KTo k' k2 f'):KTo k k2 (f+f'):=by
 refine ⟨?_,h2.len.trans h1.len,Nat.le_trans h2.fb (by have:=h1.fb;omega),fun h=>h2.sl (h1.sl h),fun h=>h2.tr (h1.tr h)⟩;have e:=h2.eq;rw [h1.eq] at e;exact e
theorem KTo.wide {k k':KI} {f f':Nat} (h:KTo k k' f) (hf:f≤f'):KTo k k' f':=⟨h.eq,h.len,Nat.le_trans h.fb (by omega),h.sl,h.tr⟩
theorem KTo.q {k k':KI} {f:Nat} (h:KTo k k' f):k'.q=k.q:=by have e:=congrArg KI.q h.eq;exact e
theorem KTo.on {k k':KI} {f:Nat} (h:KTo k k' f):k'.on=k.on:=by have e:=congrArg KI.on h.eq;exact e
theorem KTo.g {k k':KI} {f:Nat} (h:KTo k k' f):k'.g=k.g:=by have e:=congrArg KI.g h.eq;exact e
theorem KTo.B {k k':KI} {f:Nat} (h:KTo k k' f):k'.B=k.B:=by have e:=congrArg KI.B h.eq;exact e
theorem KTo.vh {k k':KI} {f:Nat} (h:KTo k k' f):k'.vh=k.vh:=by have e:=congrArg KI.vh h.eq;exact e
theorem KTo.hd {k k':KI} {f:Nat} (h:KTo k k' f):k'.hd=k.hd:=by have e:=congrArg KI.hd h.eq;exact e
theorem KTo.vs {k k':KI} {f:Nat} (h:KTo k k' f):k'.vs=k.vs:=by have e:=congrArg KI.vs h.eq;exact e
theorem KTo.sp {k k':KI} {f:Nat} (h:KTo k k' f):k'.sp=k.sp:=by have e:=congrArg KI.sp h.eq;exact e
theorem KTo.ds {k k':KI} {f:Nat} (h:KTo k k' f):k'.ds=k.ds:=by have e:=congrArg KI.ds h.eq;exact e
theorem KTo.dh {k k':KI} {f:Nat} (h:KTo k k' f):k'.dh=k.dh:=by have e:=congrArg KI.dh h.eq;exact e
theorem KTo.vr {k k':KI} {f:Nat} (h:KTo k k' f):k'.vr=k.vr:=by have e:=congrArg KI.vr h.eq;exact e
theorem KInv.gN {W0:World} {p s:Nat} {k:KI} {w:World} (h:KInv W0 p s k w):(k.g.toNat:Int)=k.g:=Int.toNat_of_nonneg h.gen.1
theorem KInv.svcN {W0:World} {p s:Nat} {k:KI} {w:World} (h:KInv W0 p s k w):SvpAt k.M k.q ⟨k.on,k.B,(k.g.toNat:Int),k.L,k.pp⟩ w:=by
 rw [h.gN];exact h.svc
theorem tickT_size (p:Pln):(tickT p).size≤16777216:=by unfold tickT;rw [txt_size];exact tickB_len _ _ _ _ _
theorem KP.tick_size (x:KP) (n:Nat):(x.tick n).size≤16777216:=by
 unfold KP.tick;split
 ·exact tickT_size _
 ·exact Nat.zero_le _
theorem KP.serve_size (x:KP) (t:ByteArray):(x.serve t).size≤16777216:=by unfold KP.serve;rw [txt_size];exact serveB_len _ _ _ _ _ _
theorem open_seal {b:List UInt8} (hb:0<b.length):openB (b++sumB (crcB b))=some b:=by
 unfold openB;have e:(b++sumB (crcB b)).length - 4=b.length:=by rw [List.length_append,sumB_len];omega
 rw [if_neg (by rw [List.length_append,sumB_len];omega),e,List.take_left',List.drop_left',if_pos rfl]
 ·rfl
 ·rfl
theorem packB_pos {L:List Bool} (h:8≤L.length):0<(packB L).length:=by
 unfold packB;split
 ·exact Nat.zero_lt_succ _
 ·exact absurd h (by decide)
 ·exact Nat.zero_lt_succ _
theorem tick_seald {x:KP} {n:Nat} (hn:n<x.pl.length):Seald (x.tick n):=by
 unfold KP.tick;rw [List.getElem?_eq_getElem hn];exact ⟨_,open_seal (packB_pos (by simp [questB,numBits_len,bytesBits_len]))⟩
theorem frame_seald (a:Ans):∃b,openB (frameA a)=some b:=by
 unfold frameA;split
 ·exact ⟨_,open_seal (packB_pos (by simp [answ1,answ0,numBits_len,bytesBits_len]))⟩
 ·exact ⟨_,open_seal (packB_pos (by simp [answ0,numBits_len,bytesBits_len]))⟩
theorem serve_seald {x:KP} {t:ByteArray} (h:(x.serve t).toList≠[]):Seald (x.serve t):=by
 unfold KP.serve serveB at h ⊢;split
 ·exact frame_seald _
 ·rename_i hq;rw [hq] at h;exact absurd (by kernel_rfl) h
theorem Tr_recv {k:KI} {n:Nat} {t:ByteArray} {M' R':List Nat} {q:Nat} (hn:n<k.pp.length) (hOK:(k.pp[n]).2.1.OK) (hT:k.Tr) (hF:FrU k.on k.bs t):({k with M:=M',pp:=k.pp.set n (q,recvG (k.pp[n]).2.1 t.data.toList,R')}:KI).Tr:=by
 have hp:PlU k.on k.bs (k.pp[n]).2.1:=hT.plT _ (List.mem_map.2 ⟨k.pp[n],List.getElem_mem hn,rfl⟩);obtain ⟨r1,r2,r3⟩:=recv_U hT.hist hp hOK hF;refine ⟨hT.hist,hT.glen,hT.last,hT.frT,fun p hp=>?_,fun m x p hx hp=>?_,fun m x p hx hp=>?_⟩
 ·have hp':p∈(k.pp.set n (q,recvG (k.pp[n]).2.1 t.data.toList,R')).map fun y=>y.2.1:=hp
  rw [List.map_set] at hp';rcases List.mem_or_eq_of_mem_set hp' with hp|hp
  ·exact hT.plT p hp
  ·rw [hp];exact r1
 ·have hp':((k.pp.set n (q,recvG (k.pp[n]).2.1 t.data.toList,R')).map fun y=>y.2.1)[m]?=some p:=hp;rw [List.map_set] at hp';by_cases e:n=m
  ·subst e;rw [List.getElem?_set_self (by simpa using hn)] at hp';have h1:=hT.hdT n x (k.pp[n]).2.1 hx (by rw [List.getElem?_map,List.getElem?_eq_getElem hn];rfl);rw [←Option.some.inj hp'];show x≤((recvG (k.pp[n]).2.1 t.data.toList).g:Int);omega
  ·rw [List.getElem?_set_ne e] at hp';exact hT.hdT m x p hx hp'
 ·have hp':((k.pp.set n (q,recvG (k.pp[n]).2.1 t.data.toList,R')).map fun y=>y.2.1)[m]?=some p:=hp;rw [List.map_set] at hp';by_cases e:n=m
  ·subst e;rw [List.getElem?_set_self (by simpa using hn)] at hp';have h1:=hT.spT n x (k.pp[n]).2.1 hx (by rw [List.getElem?_map,List.getElem?_eq_getElem hn];rfl);rw [←Option.some.inj hp',h1];show ((k.pp[n]).2.1.fm:Int)=((recvG (k.pp[n]).2.1 t.data.toList).fm:Int);rw [r3]
  ·rw [List.getElem?_set_ne e] at hp';exact hT.spT m x p hx hp'
theorem Tr_serve {k:KI} (hT:k.Tr) (t:ByteArray):FrU k.on k.bs (k.pu.serve t):=by
 have hg:=hT.glen;refine serve_U hT.hist (B:=k.B) (g:=k.g.toNat) (by omega) (fun h1=>?_) _;have:=hT.last (by omega);rwa [show k.bs.length=k.g.toNat by omega] at this
theorem Tr_tick (k:KI) (n:Nat):FrU k.on k.bs (k.pu.tick n):=by
 unfold KP.tick;split
 ·exact tick_U _ _ _
 ·exact none_U _ _ (answP_no (by unfold openB;rw [if_pos (by simp)]))
theorem ktick_is {W0:World} {p s:Nat} {k:KI} {w:World} {n:Nat} (h:KInv W0 p s k w) (hn:n<k.pp.length):
  Calls Tryz.prog 29 #[.pointer (some ⟨k.q,0,none⟩),.int .i64 (n:Int)] w fun e w'=>e= .returned (.tuple #[.string (k.pu.tick n),.int .i64 0])∧Bel w w':=by
 refine (tick_v h.svc hn).mono ?_;rintro e w' ⟨rfl,hb⟩
 have e1:k.pu.tick n=txt (tickB (k.svp.ps[n]'hn).2.1.g (k.svp.ps[n]'hn).2.1.fm (k.svp.ps[n]'hn).2.1.cg (k.svp.ps[n]'hn).2.1.cf (k.svp.ps[n]'hn).2.1.T):=by
  unfold KP.tick KI.pu;simp only [List.getElem?_map,List.getElem?_eq_getElem hn,Option.map_some];rfl
 exact ⟨by rw [e1],hb⟩
theorem kserve_is {W0:World} {p s:Nat} {k:KI} {w:World} (h:KInv W0 p s k w) (hs:s≤65600) (t:ByteArray) (ht:t.size≤1099511627776):
  Calls Tryz.prog 30 #[.pointer (some ⟨k.q,0,none⟩),.string t] w fun e w'=>e= .returned (.string (k.pu.serve t))∧Bel w w':=by
 refine (serve_v k.M k.q k.on k.B k.g.toNat t w h.svcN (mkF_len _ _ h.onok h.good.1) h.onok h.good.1 (by have:=h.gen;omega) ht).mono ?_;rintro e w' ⟨rfl,hb⟩;exact ⟨rfl,hb⟩
def RRec (W0:World) (p s:Nat) (k:KI) (x:KP) (e:Ending) (w':World):Prop:=e= .returned (.int .i64 0)∧∃k',KInv W0 p s k' w'∧KTo k k' 0∧k'.pu=x
theorem krecv_is {W0:World} {p s:Nat} {k:KI} {w:World} {n:Nat} (h:KInv W0 p s k w) (hn:n<k.pp.length) (t:ByteArray) (ht:t.size≤1099511627776) (hF:k.Tr→FrU k.on k.bs t):
  Calls Tryz.prog 31 #[.pointer (some ⟨k.q,0,none⟩),.int .i64 (n:Int),.string t] w (RRec W0 p s k (k.pu.recv n t)):=by
 refine (receive_v h.svc (fun j hj=>(h.lt j hj).2) hn t ht).mono ?_;intro e w' hr;obtain ⟨R',hK⟩:=h.plane hn hr;refine ⟨hr.1,_,hK,⟨rfl,by simp,Nat.le_refl _,id,fun hT=>Tr_recv hn (h.svc.pl hn).2 hT (hF hT)⟩,?_⟩;unfold KP.recv KI.pu;simp only [List.getElem?_map,List.getElem?_eq_getElem hn,Option.map_some,List.map_set];rfl
def RRes (W0:World) (p s:Nat) (k:KI) (n:Nat) (e:Ending) (w':World):Prop:=e= .returned (.int .i64 0)∧∃M' pp',KInv W0 p s {k with M:=M',pp:=pp'} w'∧pp'.length=k.pp.length∧(k.Tr→TruP k.on k.bs k.g k.B k.fr (pp'.map fun y=>y.2.1) (k.hd.set n 0) k.sp)
theorem krestart_is {W0:World} {p s:Nat} {k:KI} {w:World} {n:Nat} (h:KInv W0 p s k w) (hn:n<k.pp.length):
  Calls Tryz.prog 78 #[.pointer (some ⟨k.q,0,none⟩),.int .i64 (n:Int)] w (RRes W0 p s k n):=by
 refine (restart_v h.svc (fun j hj=>(h.lt j hj).2) hn).mono ?_;intro e w' hr;obtain ⟨R',hK⟩:=h.plane hn hr;refine ⟨hr.1,_,_,hK,by simp,fun hT=>⟨hT.hist,hT.glen,hT.last,hT.frT,fun p hp=>?_,fun m x p hx hp=>?_,fun m x p hx hp=>?_⟩⟩
 ·rw [List.map_set] at hp;rcases List.mem_or_eq_of_mem_set hp with hp|hp
  ·exact hT.plT p hp
  ·rw [hp];exact new_U _ _ _
 ·rw [List.map_set] at hp;by_cases e:n=m
  ·subst e;have hl:=(List.getElem?_eq_some_iff.1 hx).1;rw [List.getElem?_set_self (by simpa using hl)] at hx;rw [←Option.some.inj hx];omega
  ·rw [List.getElem?_set_ne e] at hx hp;exact hT.hdT m x p hx hp
 ·rw [List.map_set] at hp;by_cases e:n=m
  ·subst e;rw [List.getElem?_set_self (by simpa using hn)] at hp;have h1:=hT.spT n x (k.pp[n]).2.1 hx (by rw [List.getElem?_map,List.getElem?_eq_getElem hn];rfl);rw [←Option.some.inj hp,h1];rfl
  ·rw [List.getElem?_set_ne e] at hp;exact hT.spT m x p hx hp
def RTo (W0:World) (p s:Nat) (k:KI) (f:Nat) (x:KP) (e:Ending) (w':World):Prop:=e= .returned (.tuple #[])∧∃k',KInv W0 p s k' w'∧KTo k k' f∧k'.pu=x
theorem kkeep_is {W0:World} {p s:Nat} {k:KI} {w:World} (h:KInv W0 p s k w) (S:ByteArray) (hS:S.size≤1099511627776) (hfb:k.fb≤1000000000000) (hsl:Seald S) (hF:k.Tr→FrU k.on k.bs S):
  Calls Tryz.prog 135 #[.pointer (some ⟨p,0,none⟩),.string S] w (RTo W0 p s k 1 (k.pu.keep S)):=by
 obtain ⟨i0,hi,hz0,hz1,hz2⟩:=info_parts Tryz.infoStr;have HI:=Hid.mk h;have HR:=Hid.mk h.frames;have c18:=h.at_.1 18 _ rfl;have f18:=h.at_.2 18 (by rw [wl_len];decide);have hplt:=World.block_lt_of_cell? w _ c18;have hfl:=h.flen;have hb0:=h.bel.size;have hpn:p∉gl k.vf:=fun e=>h.apart.2.2.2.1 p e rfl
 have hkm:(k.fr.map Value.string).length=k.fr.length:=List.length_map _;clear h;obtain ⟨vf,hvf⟩:∃vf,vf=k.vf:=⟨_,rfl⟩;obtain ⟨n,hn⟩:∃n,n=k.fr.length:=⟨_,rfl⟩;obtain ⟨xs,hxs⟩:∃xs,xs=k.fr.map Value.string:=⟨_,rfl⟩;rw [←hvf] at HR c18 hpn;rw [←hn] at HR hfl hkm;rw [←hxs] at HR hkm;have HV:=Hid.mk hvf;have HN:=Hid.mk hn;have HX:=Hid.mk hxs;clear hvf hn hxs;go_enter Tryz.func135,Tryz.ntmps135;go_wp2_with (first|(at_builtin;refine wpList_append_lies _ rfl _ _ 40 rfl W0.heap.size 9 i0 (.string ByteArray.empty) 1 16 Tryz.underlying40 hi hz0 hz1 hz2 rfl (by decide) _ n xs rfl ?p1 ⟨w.heap.size,0,none⟩ 1 1 [.string S] rfl rfl ?d1 ?d2 (by decide) ?d3 ?d4 ?d5 _ rfl ?_))
 case p1=>exact World.ownsRow.alloc HR.out _
 try (case d1=>exact one_new _ _ _ _ (by simp))
 case d2=>first|rfl|(intro u hu;simp at hu;subst hu;rfl)
 case d3=>unfold maxLen;omega
 case d4=>omega
 case d5=>first|omega|(simp;omega)
 intro g cap w3 hown3 hgrow3 hat3 hlt3;have b3:But (gl vf) w w3:=(But.of_bel (Bel.step_alloc (Bel.refl w) _)).trans (grown_but hgrow3);have x18:=b3.cell c18 hpn;have y18:=b3.frozen c18 hpn f18;have HO:=Hid.mk hown3;have hg:Hid (vf.ownBlock=some g∨w.heap.size≤g):=hat3.imp id (fun e=>by first|omega|(rw [e];simp));clear hown3 hgrow3 hat3;go_wp2;go_end0;have hvf:=HV.out;have hn:=HN.out;have hxs:=HX.out;subst hvf hn hxs;exact ⟨rfl,_,HI.out.frame b3 HO.out hg.out hS,⟨rfl,rfl,Nat.le_refl _,fun h t ht=>(List.mem_append.1 ht).elim (h t) (fun e=>by rw [List.mem_singleton.1 e];exact hsl),fun hT=>⟨hT.hist,hT.glen,hT.last,fun t ht=>(List.mem_append.1 ht).elim (hT.frT t) (fun e=>by rw [List.mem_singleton.1 e];exact hF hT),hT.plT,hT.hdT,hT.spT⟩⟩,rfl⟩
end Go.Proofs.YtpapdkhjdelfcabGreat
