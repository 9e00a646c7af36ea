import Derived.Test.YtpapdkhjdelfcabGreatHBI
set_option maxRecDepth 100000
set_option maxHeartbeats 4000000
namespace Go.Proofs.YtpapdkhjdelfcabGreat
open Go.RowKit
theorem blk_set (a:Nat) (y:Nat×Pln×List Nat):∀(l:List (Nat×Pln×List Nat)) (k:Nat) (hk:k<l.length),(blk (l.set k y)).count a+(l[k].1::l[k].2.2).count a=(blk l).count a+(y.1::y.2.2).count a:=by
 intro l
 induction l with
 |nil=>intro k hk;simp at hk
 |cons z l ih=>
  intro k hk;unfold blk at *;cases k with
  |zero=>simp only [List.set_cons_zero,List.flatMap_cons,List.count_append,List.getElem_cons_zero];omega
  |succ k=>
   have:=ih k (by simpa using hk);simp only [List.set_cons_succ,List.flatMap_cons,List.count_append,List.getElem_cons_succ];omega
theorem cnt_mem {a:Nat} {l:List Nat}:a∈l↔1≤l.count a:=List.count_pos_iff.symm
theorem cnt_le {l:List Nat} (h:l.Nodup) (a:Nat):l.count a≤1:=List.nodup_iff_count.1 h a
theorem gl_nodup (v:Value):(gl v).Nodup:=by
 unfold gl;cases v.ownBlock <;>simp
theorem own_count (x:Svp) (s a:Nat):(x.own s).count a=[s].count a+x.L.count a+(blk x.ps).count a:=by
 have:x.own s=[s]++(x.L++blk x.ps):=rfl;rw [this];simp only [List.count_append];omega
theorem blk_one {l:List (Nat×Pln×List Nat)} {k:Nat} (hk:k<l.length) (a:Nat):(l[k].1::l[k].2.2).count a≤(blk l).count a:=by
 induction l generalizing k with
 |nil=>simp at hk
 |cons z l ih=>
  unfold blk at *;cases k with
  |zero=>simp only [List.flatMap_cons,List.count_append,List.getElem_cons_zero];omega
  |succ k=>
   have:=ih (k:=k) (by simpa using hk);simp only [List.flatMap_cons,List.count_append,List.getElem_cons_succ];omega
theorem blk_two {l:List (Nat×Pln×List Nat)} {i k:Nat} (hi:i<l.length) (hk:k<l.length) (hne:i≠k) (a:Nat):(l[i].1::l[i].2.2).count a+(l[k].1::l[k].2.2).count a≤(blk l).count a:=by
 induction l generalizing i k with
 |nil=>simp at hk
 |cons z l ih=>
  unfold blk at *;cases i with
  |zero=>
   cases k with
   |zero=>exact absurd rfl hne
   |succ k=>
    have:=blk_one (l:=l) (k:=k) (by simpa using hk) a;unfold blk at this;simp only [List.flatMap_cons,List.count_append,List.getElem_cons_succ,List.getElem_cons_zero];omega
  |succ i=>
   cases k with
   |zero=>
    have:=blk_one (l:=l) (k:=i) (by simpa using hi) a;unfold blk at this;simp only [List.flatMap_cons,List.count_append,List.getElem_cons_succ,List.getElem_cons_zero];omega
   |succ k=>
    have:=ih (i:=i) (k:=k) (by simpa using hi) (by simpa using hk) (by omega);simp only [List.flatMap_cons,List.count_append,List.getElem_cons_succ];omega
def Svp.setP (x:Svp) (n q:Nat) (p:Pln) (R:List Nat):Svp:={x with ps:=x.ps.set n (q,p,R)}
theorem SvpAt.plane {M:List Nat} {s:Nat} {x:Svp} {w w':World} {n:Nat} {p':Pln} (h:SvpAt M s x w) (hM:∀k∈M,k<w.heap.size) (hn:n<x.ps.length) (hp:p'.OK) (hT:PlTo M x.ps[n].1 x.ps[n].2.2 p' w w'):
  ∃R',(∀k∈R',(k∈x.ps[n].2.2∨w.heap.size≤k)∧k<w'.heap.size)∧But (x.ps[n].1::x.ps[n].2.2) w w'∧SvpAt (R'++M) s (x.setP n x.ps[n].1 p' R') w':=by
 obtain ⟨hb,N,R',hN,hR,hP⟩:=hT;have hin:=h.inM;have hnd:=h.nodup;have hc:=cnt_le hnd;have he:=own_count x s;have hone:=fun a=>blk_one hn a
 have hqR:∀j∈x.ps[n].1::x.ps[n].2.2,j∈M:=fun j hj=>hin j (cnt_mem.2 (by have:=cnt_mem.1 hj;have:=hone j;have:=he j;omega))
 have hMw:∀j∈x.ps[n].1::x.ps[n].2.2,j∈N++M∨w.heap.size≤j:=fun j hj=>Or.inl (List.mem_append_right _ (hqR j hj))
 have hg:=h.grow N hN;obtain ⟨vL,a1,a2,a3,a4,a5,a6,a7⟩:=hg;have hR1:∀k∈R',k∈x.ps[n].2.2∨w.heap.size≤k:=fun k hk=>(hR k hk).imp id (hN k)
 have hRn:R'.Nodup:=by
  obtain ⟨_,_,vP,vE,vT,_,_,_,_,hgl⟩:=hP;rw [←hgl];exact gl_nodup _
 have hRl:∀k∈R',k<w'.heap.size:=fun k hk=>by
  obtain ⟨_,_,vP,vE,vT,_,_,_,hTh,hgl⟩:=hP;rw [←hgl] at hk;exact (World.ownsRow.lt hTh k (by unfold gl at hk;simpa using hk)).2
 have hset:=fun a=>blk_set a (x.ps[n].1,p',R') x.ps n hn
 have hsN:s∉x.ps[n].1::x.ps[n].2.2:=fun e=>by
  have b1:=cnt_mem.1 e;have b2:=hone s;have b3:=he s;have b4:=hc s;have b5:[s].count s=1:=by simp
  omega
 have hLN:∀k∈x.L,k∉x.ps[n].1::x.ps[n].2.2:=fun k hk e=>by
  have b1:=cnt_mem.1 e;have b2:=hone k;have b3:=he k;have b4:=hc k;have b5:=cnt_mem.1 hk;omega
 have hfin:SvpAt (N++M) s (x.setP n x.ps[n].1 p' R') w':=by
  refine ⟨vL,a1.but hb hsN hMw,?_,a3,a4,fun y hy=>?_,?_,by simpa [Svp.setP] using a7⟩
  ·have e:((x.setP n x.ps[n].1 p' R').ps.map fun y=>y.1)=x.ps.map fun y=>y.1:=by
    unfold Svp.setP;apply List.ext_getElem
    ·simp
    ·intro i i1 i2;simp only [List.getElem_map,List.getElem_set];split
     ·rename_i e;subst e;rfl
     ·rfl
   rw [e]
   exact own_row_but a2 hb (fun k hk=>hLN k (by rw [←a3];exact hk))
  ·obtain ⟨i,hi,rfl⟩:=List.mem_iff_getElem.1 hy;have hi':i<x.ps.length:=by simpa [Svp.setP] using hi
   by_cases hin2:n=i
   ·subst hin2;simp only [Svp.setP,List.getElem_set_self];exact ⟨hP,hp⟩
   ·simp only [Svp.setP,List.getElem_set_ne hin2];refine ⟨(a5 _ (List.getElem_mem hi')).1.but hb (fun e=>?_) (fun j hj e=>?_) hMw,(a5 _ (List.getElem_mem hi')).2⟩
    ·have b1:=blk_two hi' hn (Ne.symm hin2) x.ps[i].1;have b2:=cnt_mem.1 e;have b3:=he x.ps[i].1;have b4:=hc x.ps[i].1;have b5:1≤(x.ps[i].1::x.ps[i].2.2).count x.ps[i].1:=cnt_mem.1 (by simp);omega
    ·have b1:=blk_two hi' hn (Ne.symm hin2) j;have b2:=cnt_mem.1 e;have b3:=he j;have b4:=hc j;have b5:1≤(x.ps[i].1::x.ps[i].2.2).count j:=cnt_mem.1 (List.mem_cons_of_mem _ hj);omega
  ·refine List.nodup_iff_count.2 fun a=>?_
   have e1:=own_count (x.setP n x.ps[n].1 p' R') s a;rw [e1];have e2:=hset a;have e3:=he a;have e4:=hc a;have e5:=cnt_le hRn a;show [s].count a+x.L.count a+(blk (x.ps.set n (x.ps[n].1,p',R'))).count a≤1;simp only [List.count_cons] at e2 e3 ⊢;by_cases hm:a∈R'
   ·rcases hR1 a hm with e|e
    ·have a5:=cnt_mem.1 e;omega
    ·have a5:(x.own s).count a=0:=Nat.eq_zero_of_not_pos fun e2=>by
      have:=hM a (hin a (List.count_pos_iff.1 e2));omega
     have a6:(if (x.ps[n].1==a)=true then 1 else 0)=0:=by
      rw [if_neg];intro e6;have:=hM _ (hqR x.ps[n].1 (by simp));have:x.ps[n].1=a:=by simpa using e6
      omega
     omega
   ·have a5:R'.count a=0:=Nat.eq_zero_of_not_pos fun e2=>hm (List.count_pos_iff.1 e2)
    omega
 refine ⟨R',fun k hk=>⟨hR1 k hk,hRl k hk⟩,hb,hfin.narrow (fun j hj=>?_) (fun j hj=>?_)⟩
 ·rcases List.mem_append.1 hj with hj|hj
  ·exact (hP.2.1 j hj)
  ·exact List.mem_append_right _ hj
 ·have e1:=own_count (x.setP n x.ps[n].1 p' R') s j;have e2:=hset j;have e3:=he j;have e4:=cnt_mem.1 hj;rw [e1] at e4;by_cases hm:j∈R'
  ·exact List.mem_append_left _ hm
  ·refine List.mem_append_right _ (hin j (cnt_mem.2 ?_));have a5:R'.count j=0:=Nat.eq_zero_of_not_pos fun e2=>hm (List.count_pos_iff.1 e2)
   simp only [Svp.setP,List.count_cons] at *;omega
def RPlane (M:List Nat) (s:Nat) (x:Svp) (n:Nat) (hn:n<x.ps.length) (p':Pln) (w:World) (e:Ending) (w':World):Prop:=e= .returned (.int .i64 0)∧∃R',(∀k∈R',(k∈x.ps[n].2.2∨w.heap.size≤k)∧k<w'.heap.size)∧But (x.ps[n].1::x.ps[n].2.2) w w'∧SvpAt (R'++M) s (x.setP n x.ps[n].1 p' R') w'
theorem receive_v {M:List Nat} {s:Nat} {x:Svp} {n:Nat} {w:World} (h:SvpAt M s x w) (hM:∀k∈M,k<w.heap.size) (hn:n<x.ps.length) (t:ByteArray) (ht:t.size≤1099511627776):
  Calls Tryz.prog 31 #[.pointer (some ⟨s,0,none⟩),.int .i64 (n:Int),.string t] w (RPlane M s x n hn (recvG x.ps[n].2.1 t.data.toList) w):=by
 have hp:=h.pl hn;refine (receive_pl ((h.dp n).1 n hn rfl) hp.1 hp.2 hM ht).mono ?_;rintro e w' ⟨rfl,hT⟩;exact ⟨rfl,h.plane hM hn (recvG_ok hp.2 _) hT⟩
theorem restart_v {M:List Nat} {s:Nat} {x:Svp} {n:Nat} {w:World} (h:SvpAt M s x w) (hM:∀k∈M,k<w.heap.size) (hn:n<x.ps.length):
  Calls Tryz.prog 78 #[.pointer (some ⟨s,0,none⟩),.int .i64 (n:Int)] w (RPlane M s x n hn (plnNew x.ps[n].2.1.fm) w):=by
 have hp:=h.pl hn;refine (restart_pl ((h.dp n).1 n hn rfl) hp.1).mono ?_;rintro e w' ⟨rfl,hT⟩;exact ⟨rfl,h.plane hM hn (plnNew_ok hp.2.fm) hT⟩
theorem tick_v {M:List Nat} {s:Nat} {x:Svp} {n:Nat} {w:World} (h:SvpAt M s x w) (hn:n<x.ps.length):
  Calls Tryz.prog 29 #[.pointer (some ⟨s,0,none⟩),.int .i64 (n:Int)] w (RTxE w (tickB x.ps[n].2.1.g x.ps[n].2.1.fm x.ps[n].2.1.cg x.ps[n].2.1.cf x.ps[n].2.1.T,0)):=
 tick_pl ((h.dp n).1 n hn rfl) (h.pl hn).1 (h.pl hn).2
theorem held_v {M:List Nat} {s:Nat} {x:Svp} {n:Nat} {w:World} (h:SvpAt M s x w) (hn:n<x.ps.length):
  Calls Tryz.prog 32 #[.pointer (some ⟨s,0,none⟩),.int .i64 (n:Int)] w (RHeld w (heldF x.ps[n].2.1.g x.ps[n].2.1.nf)):=
 held_pl ((h.dp n).1 n hn rfl) (h.pl hn).1
theorem lookup_v {M:List Nat} {s:Nat} {x:Svp} {n:Nat} {w:World} (h:SvpAt M s x w) (hn:n<x.ps.length) (k:ByteArray) (hk:k.size≤4611686018427386000):
  Calls Tryz.prog 33 #[.pointer (some ⟨s,0,none⟩),.int .i64 (n:Int),.string k] w (RStrErr w (plOwnF x.ps[n].2.1.g x.ps[n].2.1.c x.ps[n].2.1.B x.ps[n].2.1.E k)):=
 lookup_pl ((h.dp n).1 n hn rfl) (h.pl hn).1 (h.pl hn).2 hk
def RJoinV (M:List Nat) (s:Nat) (x:Svp) (fm:Nat) (w:World) (e:Ending) (w':World):Prop:=∃p L',e= .returned (.tuple #[.int .i64 (x.ps.length:Int),.int .i64 0])∧But (s::x.L) w w'∧(w.heap.size≤p∧p<w'.heap.size)∧(∀k∈L',(k∈x.L∨w.heap.size≤k)∧k<w'.heap.size)∧SvpAt (p::(L'++M)) s {x with L:=L',ps:=x.ps++[(p,plnNew fm,[])]} w'
theorem join_v {M:List Nat} {s:Nat} {x:Svp} {fm:Nat} {w:World} (h:SvpAt M s x w) (hM:∀k∈M,k<w.heap.size) (hl:x.ps.length<4) (hf:1≤fm∧fm≤3):
  Calls Tryz.prog 28 #[.pointer (some ⟨s,0,none⟩),.int .i64 (fm:Int)] w (RJoinV M s x fm w):=by
 have hin:=h.inM;have hnd:=h.nodup;have hc:=cnt_le hnd;have he:=own_count x s;obtain ⟨vL,a1,a2,a3,a4,a5,a6,a7⟩:=h;have hlt:=a1.lt
 have hsL:s∉x.L:=fun e=>by
  have b1:=cnt_mem.1 e;have b3:=he s;have b4:=hc s;have b5:[s].count s=1:=by simp
  omega
 obtain ⟨hsM,vP,vE,hT,h8,hF,hP,hE⟩:=a1;refine (join_is s fm vL (x.ps.map fun y=>y.1) w hF.2.1 hF.2.2 a2 (by simpa using hl) hf (fun e=>hsL (by rw [←a3];unfold gl;rw [e];simp))).mono ?_;rintro e w' ⟨p,v',rfl,hb,hp,hX,c9,hrow,hv1,hv2,hk⟩;rw [a3] at hb hv1;have hgl:∀k∈gl v',v'.ownBlock=some k:=fun k hk=>by unfold gl at hk;simpa using hk
 have hL1:∀k∈gl v',(k∈x.L∨w.heap.size≤k)∧k<w'.heap.size:=fun k hk=>⟨hv1 k (hgl k hk),(World.ownsRow.lt hrow k (hgl k hk)).2⟩
 refine ⟨p,gl v',by simp,hb,⟨hp,hX.lt⟩,hL1,?_⟩;have w1:∀j∈M,j∈p::(gl v'++M):=fun j hj=>by simp [hj]
 have w2:∀j∈p::(gl v'++M),j∈M∨w.heap.size≤j:=fun j hj=>by
  rcases List.mem_cons.1 hj with e|hj
  ·rw [e];exact Or.inr hp
  ·rcases List.mem_append.1 hj with hj|hj
   ·exact (hL1 j hj).1.imp (a4 j) id
   ·exact Or.inl hj
 have hMw:∀j∈s::x.L,j∈p::(gl v'++M)∨w.heap.size≤j:=fun j hj=>by
  rcases List.mem_cons.1 hj with e|hj
  ·rw [e];exact Or.inl (w1 _ hsM)
  ·exact Or.inl (w1 _ (a4 j hj))
 have hmb:Bel (mask (p::(gl v'++M)) w) (mask (p::(gl v'++M)) w'):=hb.mono hMw;rw [←mask_ext w1 w2] at hP hE;have hk0:∀{o:Nat} {u:Value},o≠9→w.cell? ⟨s,o,none⟩=some u→w'.cell? ⟨s,o,none⟩=some u:=fun ho hu=>(hk.1 _ ho).trans hu
 have hfr:∀{o:Nat},w.frozen? ⟨s,o,none⟩=false→w'.frozen? ⟨s,o,none⟩=false:=fun hu=>(hk.2 _).trans hu
 obtain ⟨⟨t0,t1,t2,t3,t4,t5⟩,t6,t7⟩:=hT;obtain ⟨⟨f0,f1,f2,f3,f4,f5,f6,f7,f8⟩, -,f9⟩:=hF
 have hblk:∀j∈blk x.ps,j∈M∧j∉s::x.L:=fun j hj=>by
  have b1:=cnt_mem.1 hj;have b3:=he j;have b4:=hc j;refine ⟨hin j (cnt_mem.2 (by omega)),fun e=>?_⟩;have b5:=cnt_mem.1 e
  have b6:(s::x.L).count j=[s].count j+x.L.count j:=by
   have:s::x.L=[s]++x.L:=rfl;rw [this,List.count_append]
  omega
 refine ⟨v',⟨w1 _ hsM,vP,vE,⟨⟨hk0 (by decide) t0,hk0 (by decide) t1,hk0 (by decide) t2,hk0 (by decide) t3,hk0 (by decide) t4,hk0 (by decide) t5⟩,hk0 (by decide) t6,hk0 (by decide) t7⟩,hk0 (by decide) h8,⟨⟨hfr f0,hfr f1,hfr f2,hfr f3,hfr f4,hfr f5,hfr f6,hfr f7,hfr f8⟩,c9,hfr f9⟩,hP.later hmb,hE.later hmb⟩,by simpa using hrow,rfl,fun k hk=>by simp [hk],fun y hy=>?_,?_,by simp;omega⟩
 ·rcases List.mem_append.1 hy with hy|hy
  ·have hbm:=blk_mem hy;exact ⟨((a5 y hy).1.wide w1 w2).but hb (hblk _ hbm.1).2 (fun j hj=>(hblk _ (hbm.2 j hj)).2) hMw,(a5 y hy).2⟩
  ·rw [List.mem_singleton.1 hy];exact ⟨PlAt.ofNew hX (by simp),plnNew_ok hf⟩
 ·refine List.nodup_iff_count.2 fun a=>?_
  have e1:=own_count {x with L:=gl v',ps:=x.ps++[(p,plnNew fm,[])]} s a;rw [e1]
  have e2:(blk (x.ps++[(p,plnNew fm,[])])).count a=(blk x.ps).count a+[p].count a:=by
   unfold blk;rw [List.flatMap_append,List.count_append];rfl
  show [s].count a+(gl v').count a+(blk (x.ps++[(p,plnNew fm,[])])).count a≤1;rw [e2];have e3:=he a;have e4:=hc a;have e5:=cnt_le (gl_nodup v') a
  have e6:w.heap.size≤a→(x.own s).count a=0:=fun h=>Nat.eq_zero_of_not_pos fun e2=>by
   have:=hM a (hin a (List.count_pos_iff.1 e2));omega
  have e7:[p].count a≤1:=cnt_le (by simp) a;by_cases hm:a∈gl v'
  ·have e8:=hv2 a (hgl a hm);have e9:[p].count a=0:=Nat.eq_zero_of_not_pos fun e2=>e8.1 (List.mem_singleton.1 (List.count_pos_iff.1 e2))
   have e10:[s].count a=0:=Nat.eq_zero_of_not_pos fun e2=>e8.2 (List.mem_singleton.1 (List.count_pos_iff.1 e2))
   rcases (hL1 a hm).1 with e|e
   ·have:=cnt_mem.1 e;omega
   ·have:=e6 e;omega
  ·have e8:(gl v').count a=0:=Nat.eq_zero_of_not_pos fun e2=>hm (List.count_pos_iff.1 e2)
   by_cases hpa:a=p
   ·have:=e6 (by omega);omega
   ·have e9:[p].count a=0:=Nat.eq_zero_of_not_pos fun e2=>hpa (List.mem_singleton.1 (List.count_pos_iff.1 e2))
    omega
theorem joinfull_v {M:List Nat} {s:Nat} {x:Svp} {f:Int} {w:World} (h:SvpAt M s x w) (hl:4≤x.ps.length) (hf:1≤f∧f≤3):
  Calls Tryz.prog 28 #[.pointer (some ⟨s,0,none⟩),.int .i64 f] w (RHeld w (-1,6)):=by
 obtain ⟨vL,⟨_,vP,vE,hT,h8,hF,hP,hE⟩,a2, -⟩:=h;exact join_full s f vL _ w hF.2.1 a2 (by simpa using hl) hf
end Go.Proofs.YtpapdkhjdelfcabGreat
namespace Go.Proofs.YtpapdkhjdelfcabGreat
open Go.RowKit
theorem txt_size (l:List UInt8):(txt l).size=l.length:=by simp [txt,ByteArray.size]
theorem sumB_len (x:BitVec 32):(sumB x).length=4:=rfl
theorem imageB_len {f g:Nat} {c:Cfg} {B:List BK} {E:List EI} (hc:c.TOK) (hB:PoolOK B) (hE:E.length≤65536):(imageB f g c B E).length≤16777216:=by
 have h1:=packB_body_le (f:=f) (g:=g) (c:=c) hc.2.2.2.2.2.2.2.2.2 hB hE;unfold imageB;rw [List.length_append,sumB_len];omega
theorem simgF_len {f:Int} {g:Nat} {c:Cfg} {B:List BK} {E:List EI} (hc:c.TOK) (hB:PoolOK B) (hE:E.length≤65536):(simgF f g c B E).1.length≤16777216:=by
 unfold simgF;split
 ·split
  ·simp
  ·exact imageB_len hc hB hE
 ·simp
theorem patchB_len {b s g:Nat} {B:List BK} {ah bh:Nat} {M:List EI} {alg:Int} (hB:PoolOK B) (hM:M.length≤65536):(patchB b s g B ah bh M alg).length≤16777216:=by
 have h1:=Nat.le_trans (packB_len_le _ (chB b s g B ah bh M alg) (Nat.le_refl _)) (chB_len hB hM);unfold patchB;rw [List.length_append,sumB_len];omega
theorem patchF_len (l1 l2:List UInt8):(patchF l1 l2).1.length≤16777216:=by
 unfold patchF;split
 ·rename_i h1 h2;have ok2:=imageP_ok h2;split
  ·have hl:=ok2.len;exact patchB_len ok2.good.1 (Nat.le_trans (List.length_take_le' _ _) (Nat.le_trans (by rw [List.length_drop];exact Nat.sub_le _ _) (Nat.le_trans hl (by decide))))
  ·simp
 ·simp
theorem applyF_len (l1 l2:List UInt8):(applyF l1 l2).1.length≤16777216:=by
 unfold applyF;split
 ·rename_i h1;have ok1:=imageP_ok h1;split
  ·rename_i h2;have ok2:=changeP_ok h2;split
   ·split
    ·split
     ·rename_i hr;have h3:=cntF_le ok1.tok ok2.good.1;have h4:=hr.2.1;exact imageB_len ok1.tok ok2.good.1 (by omega)
     ·simp
    ·simp
   ·simp
  ·simp
 ·simp
theorem decF_len (l:List UInt8):(decF l).1.length≤16777216∧(decF l).2.1.length≤16777216:=by
 unfold decF;split
 ·rename_i h1;have ok1:=imageP_ok h1;have:=ok1.len;exact ⟨imageB_len ok1.tok ok1.good.1 (by omega),imageB_len ok1.tok ok1.good.1 (by omega)⟩
 ·simp
theorem tickB_len (g fm cg cf:Nat) (T:List TP):(tickB g fm cg cf T).length≤16777216:=by
 unfold tickB;rw [List.length_append,sumB_len];have h1:=packB_len_le _ (questB g fm cg cf (misF T)) (Nat.le_refl _);have h2:(questB g fm cg cf (misF T)).length≤1000:=by simp [questB,numBits_len,bytesBits_len]
 omega
theorem frameA_len (a:Ans) (h:a.2.2.2.2.2.length≤48):(frameA a).length≤16777216:=by
 unfold frameA;split
 ·rw [List.length_append,sumB_len];have h1:=packB_len_le _ (answ1 a.2.1 a.2.2.1 a.2.2.2.1 a.2.2.2.2.1 (txt a.2.2.2.2.2)) (Nat.le_refl _);have h2:(txt a.2.2.2.2.2).data.toList=a.2.2.2.2.2:=rfl
  have h3:(answ1 a.2.1 a.2.2.1 a.2.2.2.1 a.2.2.2.2.1 (txt a.2.2.2.2.2)).length≤1000:=by
   unfold answ1 answ0;rw [h2];simp only [List.length_append,numBits_len,bytesBits_len,List.length_nil,List.length_cons];omega
  omega
 ·rw [List.length_append,sumB_len];have h1:=packB_len_le _ (answ0 a.1) (Nat.le_refl _);have h3:(answ0 a.1).length≤1000:=by simp [answ0,numBits_len,bytesBits_len]
  omega
theorem serveB_len (fm g:Nat) (c:Cfg) (B:List BK) (E:List EI) (l:List UInt8):(serveB fm g c B E l).length≤16777216:=by
 unfold serveB;split
 ·refine frameA_len _ ?_;unfold answF;split
  ·simp
  ·split
   ·simp
   ·dsimp only;exact cutP_len _ _
 ·simp
end Go.Proofs.YtpapdkhjdelfcabGreat
namespace Go.Proofs.YtpapdkhjdelfcabGreat
open Go.RowKit
def pickF (c:Int) (n:Int):Int:=(if c<0 then -(c+1) else c) % n
theorem pickF_range (c n:Int) (hn:0<n):0≤pickF c n∧pickF c n<n:=⟨Int.emod_nonneg _ (by omega),Int.emod_lt_of_pos _ hn⟩
theorem pick_is (c n:Int) (w:World) (hc:I64 c) (hn:0<n) (hn2:n≤4611686018427387904):
  Calls Tryz.prog 70 #[.int .i64 c,.int .i64 n] w fun e w'=>e= .returned (.int .i64 (pickF c n))∧w=w':=by
 obtain ⟨h1,h2⟩:=hc;have hnz:(n==0)=false:=by rw [beq_eq_false_iff_ne];omega
 by_cases hneg:c<0
 ·have HX:Hid (pickF c n=(-(c+1)) % n):=by show pickF c n=_;rw [pickF,if_pos hneg]
  generalize pickF c n=X at *;go_enter Tryz.func70,Tryz.ntmps70;go_wp2;go_ret;exact ⟨ret_int (by rw [HX.out,←Int.neg_tmod,Int.tmod_eq_emod_of_nonneg (by omega)]),rfl⟩
 ·have HX:Hid (pickF c n=c % n):=by show pickF c n=_;rw [pickF,if_neg hneg]
  generalize pickF c n=X at *;go_enter Tryz.func70,Tryz.ntmps70;go_wp2;go_ret;exact ⟨ret_int HX.out.symm,rfl⟩
def keyF (k:Nat):ByteArray:=⟨#[UInt8.ofNat (97+k),UInt8.ofNat (k * 7)]⟩
theorem conv_two (w:World) (a b:UInt8):(convert 105 9 (.slice (some ⟨w.heap.size,0,none⟩) 2 2)).run Tryz.prog (w.alloc (.cells #[.int .u8 (a.toNat:Int),.int .u8 (b.toNat:Int)] 5))= .ok (.string ⟨#[a,b]⟩) (w.alloc (.cells #[.int .u8 (a.toNat:Int),.int .u8 (b.toNat:Int)] 5)):=by
 have h:=conv_head (base:=w.heap.size) (l:=[a,b]) (World.ownsRow_lit w #[.int .u8 (a.toNat:Int),.int .u8 (b.toNat:Int)] 2 (Nat.le_refl _) (by decide) rfl) (by simp);exact h
theorem key_is (k:Nat) (w:World) (hk:k≤12):
  Calls Tryz.prog 138 #[.int .i64 k] w (RText w (keyF k)):=by
 have e1:(((UInt8.ofNat (97+k)).toNat:Nat):Int)=97+(k:Int):=by rw [u8_of];omega
 have e2:(((UInt8.ofNat (k * 7)).toNat:Nat):Int)=(k:Int) * 7:=by rw [u8_of];omega
 have hcv:=fun wx=>conv_two wx (UInt8.ofNat (97+k)) (UInt8.ofNat (k * 7))
 rw [e1,e2] at hcv;obtain ⟨X,hX⟩:∃X,X=keyF k:=⟨_,rfl⟩;rw [←hX];rw [show (⟨#[UInt8.ofNat (97+k),UInt8.ofNat (k * 7)]⟩:ByteArray)=X from hX.symm] at hcv;clear hX e1 e2;go_enter Tryz.func138,Tryz.ntmps138;go_wp2;go_ret;exact ⟨rfl,by (repeat (first|exact Bel.refl _|assumption|refine Bel.step_alloc ?_ _|refine Bel.step_drew ?_|refine Bel.step_drewN ?_ _|refine Bel.step_set ?_ (by simp <;>omega) _|refine Bel.trans ?_ (by assumption)))⟩
def ownersF (c:Cfg) (B:List BK) (g:Int):List ByteArray:=(List.range 12).map fun k=>(localF c B g (keyF k)).1
theorem keyF_size (k:Nat):(keyF k).size=2:=rfl
def RRow (w:World) (L:List ByteArray) (e:Ending) (w':World):Prop:=∃v,e= .returned v∧Bel w w'∧OwnT w.heap.size w' v L
theorem owners_is (M:List Nat) (q:Nat) (c:Cfg) (B:List BK) (g:Int) {L:List Nat} {ps:List (Nat×Pln×List Nat)} (w:World) (hS:SvpAt M q ⟨c,B,g,L,ps⟩ w) (hE:(mkF c B).length≤65536) (hc:c.OK):
  Calls Tryz.prog 129 #[.pointer (some ⟨q,0,none⟩)] w (RRow w (ownersF c B g)):=by
 obtain ⟨i0,hi,hz0,hz1,hz2⟩:=info_parts Tryz.infoStr;have hlo:=fun k wx (h:Bel w wx)=>local_v M q c B g (keyF k) wx (hS.later h) hE hc (by rw [keyF_size];omega)
 obtain ⟨of,hof⟩:∃of:Nat→ByteArray,of=fun k=>(localF c B g (keyF k)).1:=⟨_,rfl⟩
 have hX:ownersF c B g=(List.range 12).map of:=by rw [hof];rfl
 rw [hX];have hlo2:∀k wx,Bel w wx→∃er,Calls Tryz.prog 103 #[.pointer (some ⟨q,0,none⟩),.string (keyF k)] wx (RStrErr wx (of k,er)):=fun k wx h=>⟨(localF c B g (keyF k)).2,by rw [hof];exact hlo k wx h⟩
 clear hlo hof hX;have HSV:=Hid.mk hS;clear hS;go_enter Tryz.func129,Tryz.ntmps129;go_wp2_with (first|(at_make;refine wpList_make_full _ rfl _ _ 40 rfl w.heap.size 9 i0 (.string ByteArray.empty) 1 Tryz.underlying40 hi hz0 hz1 _ _ _ _ 12 rfl rfl rfl rfl ?b2 ?b3 ?b4 ?_))
 case b2=>first|omega|(rw [hz2];omega)
 case b3=>decide
 case b4=>exact Nat.le_refl _
 intro w1 hown1 hgrow1;have hb1:Bel w w1:=(Bel.refl _).grown hgrow1 (fun g hg=>by cases hg);obtain ⟨gr,hgr⟩:∃gr,gr=w.heap.size:=⟨_,rfl⟩;have hmade:(madeCells #[Value.string ByteArray.empty] 12).toList=(List.replicate 12 ByteArray.empty).map Value.string:=by rw [toList_madeCells_one,List.map_replicate]
 have hown:OwnT w.heap.size w1 (sl gr 12 12) (List.replicate 12 ByteArray.empty):=by
  rw [hgr];unfold OwnT sl;rw [←hmade,List.length_replicate];exact hown1
 clear hgrow1 hown1 hmade;rw [←hgr];have hgw:w.heap.size≤gr:=by omega
 clear hgr;go_wp2;go_loopg [4] 12 (fun r n wr=>Bel w wr∧∃k:Nat,r=12 - k∧k≤12∧n= .int .i64 k∧∃L:List ByteArray,L.length=12∧OwnT w.heap.size wr (sl gr 12 12) L∧L.take k=(List.range k).map of)
 case atStart=>exact ⟨hb1,0,by omega,by omega,rfl,_,List.length_replicate,hown,rfl⟩
 case round=>
  obtain ⟨hb,k,hr,hk,rfl,L,hLl,hL,hLe⟩:=hrel;have HO:=Hid.mk hL;have HLe:=Hid.mk hLe;have HLl:=Hid.mk hLl;clear hL hLe hLl hown hb1;by_cases hlt:k<12
  ·have hkey:=fun wx=>key_is k wx (by omega)
   go_wp2_with fail;refine (hkey _).mono ?_;rintro e w2 ⟨rfl,hb2⟩;obtain ⟨er,hcl⟩:=hlo2 k w2 (hb.trans hb2);clear hkey;generalize keyF k=kk at *;generalize hofk:of k=ofk at *;go_wp2_with fail;refine hcl.mono ?_;rintro e w3 ⟨rfl,hb3⟩;have hb23:=hb2.trans hb3;have hO3:OwnT w.heap.size w3 (sl gr 12 12) L:=own_later HO.out hb23;have hbw:=hb.trans hb23;have hO3':w3.ownsRow w.heap.size 9 1 (.slice (some ⟨gr,0,none⟩) 12 12) 12 (L.map Value.string):=by have:=hO3;unfold OwnT sl at this;rw [HLl.out] at this;exact this
   have k1:∃y,w3.cell? ⟨gr,k,none⟩=some y:=⟨_,by rw [World.ownsRow.cellAt hO3' k (by omega),List.getElem?_map,List.getElem?_eq_getElem (by have:=HLl.out;omega)];rfl⟩;have k2:=World.ownsRow.frozenAt hO3' k;obtain ⟨y,k1⟩:=k1
   have H9:Hid (OwnT w.heap.size (w3.setCell ⟨gr,k,none⟩ (.string ofk)) (sl gr 12 12) (L.set k ofk)):=by
    have:=(World.ownsRow.stored hO3' k (.string ofk)).1;unfold Hid OwnT sl;rw [List.length_set,HLl.out,List.map_set];exact this
   clear hO3 hO3' HO hcl;go_wp2;go_roundg (12 - (k+1))
   case measure=>omega
   case rel=>
    refine ⟨hbw.step_set hgw _,k+1,rfl,by omega,by go_num,L.set k ofk,by rw [List.length_set];exact HLl.out,H9.out,?_⟩;rw [List.take_succ_eq_append_getElem (by rw [List.length_set];have:=HLl.out;omega),List.take_set_of_le (Nat.le_refl k),HLe.out,List.getElem_set_self,List.range_succ,List.map_append,←hofk];rfl
  ·obtain rfl:k=12:=by omega
   go_wp2;go_ret;refine ⟨_,rfl,hb,?_⟩;have h12:L=(List.range 12).map of:=by rw [←HLe.out,List.take_of_length_le (by have:=HLl.out;omega)]
   rw [←h12];exact HO.out
def weightF (B:List BK) (id:ByteArray):Int:=match B[atName id B]? with
 |some b=>b.2
 |none=> -1
theorem weight_is (B:List BK) (v:Value) (id:ByteArray) (w:World) (hP:PoolAt w v B) (hB:B.length≤9):
  Calls Tryz.prog 130 #[v,.string id] w (RSum w (weightF B id)):=by
 obtain ⟨ao,cap,rfl,hc⟩:=hP.open;go_enter Tryz.func130,Tryz.ntmps130;go_wp2;go_loopg [5] B.length (fun r n wr=>w=wr∧∃k:Nat,r=B.length - k∧k≤B.length∧n= .int .i64 k∧∀j (h:j<B.length),j<k→B[j].1≠id)
 case atStart=>exact ⟨rfl,0,by omega,by omega,rfl,fun j _ h=>by omega⟩
 case round=>
  obtain ⟨rfl,k,hr,hk,rfl,hall⟩:=hrel;have HA:Hid (∀j (h:j<B.length),j<k→B[j].1≠id):=hall;clear hall;by_cases hlt:k<B.length
  ·obtain ⟨g,rfl,c0,c1⟩:=hc k hlt;clear hc;cases heq:B[k].1.toList==id.toList
   ·have hstep:Hid (∀j (h:j<B.length),j<k+1→B[j].1≠id):=fun j h hj=>by
     by_cases he:j=k
     ·subst he;intro e;rw [str_eq.2 e] at heq;cases heq
     ·exact HA.out j h (by omega)
    generalize B[k].1=idk at *
    generalize B[k].2=wk at *
    go_wp2
    go_roundg (B.length - (k+1))
    case measure=>omega
    case rel=>exact ⟨rfl,k+1,rfl,by omega,by go_num,hstep.out⟩
   ·have hfin:Hid (weightF B id=B[k].2):=by
     have:=atName_first hlt (str_eq.1 heq) HA.out;show weightF B id=_;rw [weightF,this,List.getElem?_eq_getElem hlt]
    generalize B[k].1=idk at *
    generalize B[k].2=wk at *
    go_wp2
    go_ret
    exact ⟨ret_int hfin.out.symm,Bel.refl _⟩
  ·have hfin:Hid (weightF B id= -1):=by
    show weightF B id= -1;rw [weightF];cases hx:B[atName id B]? with
    |none=>rfl
    |some b=>
     obtain ⟨hl,_⟩:=List.getElem?_eq_some_iff.1 hx;exact absurd (atName_is hl) (HA.out _ hl (by omega))
   clear hc
   go_wp2
   go_ret
   exact ⟨ret_int hfin.out.symm,Bel.refl _⟩
end Go.Proofs.YtpapdkhjdelfcabGreat
