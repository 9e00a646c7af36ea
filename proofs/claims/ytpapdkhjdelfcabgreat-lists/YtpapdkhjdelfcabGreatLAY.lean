import Derived.Test.YtpapdkhjdelfcabGreatLAX
namespace Go.Proofs.YtpapdkhjdelfcabGreat
open Go.RowKit
set_option maxRecDepth 100000
set_option maxHeartbeats 4000000
theorem Mr {M M':List Nat} {w:World} (h1:∀j∈M,j∈M') (h2:∀j∈M',j∈M∨w.heap.size≤j):Ay M' w=Ay M w:=by
 unfold Ay;congr 1;apply Array.ext
 ·simp
 ·intro i a b;have hi:i<w.heap.size:=by simpa using a
  simp only [Array.getElem_mapIdx];by_cases hm:i∈M
  ·simp [hm,h1 i hm]
  ·have:i∉M':=fun e=>(h2 i e).elim hm (fun k=>by omega)
   simp [hm,this]
theorem Ap.narrow {M M':List Nat} {w:World} {v:Value} {n:Nat} {xs:List Value} (h:Ap (Ay M w) v n xs) (h1:∀j∈M',j∈M):Ap (Ay M' w) v n xs:=by
 rcases h with h|⟨g,cap,hv,hn,hg,hc⟩
 ·exact Or.inl h
 ·refine Or.inr ⟨g,cap,hv,hn,by rw [Eo] at hg ⊢;exact hg,fun j u hu=>?_⟩;obtain ⟨a,b⟩:=Bn.1 (hc j u hu);exact Bn.2 ⟨a,fun e=>b (h1 _ e)⟩
theorem Br.wide {M M':List Nat} {q:Nat} {p:AF} {R:List Nat} {w:World} (h:Br M q p R w) (h1:∀j∈M,j∈M') (h2:∀j∈M',j∈M∨w.heap.size≤j):Br M' q p R w:=by
 unfold Br at *;rw [Mr h1 h2];exact ⟨h1 _ h.1,fun k hk=>h1 _ (h.2.1 k hk),h.2.2⟩
theorem Br.narrow {M M':List Nat} {q:Nat} {p:AF} {R:List Nat} {w:World} (h:Br M q p R w) (h1:∀j∈M',j∈M) (hq:q∈M') (hR:∀k∈R,k∈M'):Br M' q p R w:=by
 obtain ⟨_,_,vP,vE,vT,hX,hP,hE,hT,hg⟩:=h;exact ⟨hq,hR,vP,vE,vT,hX,Ap.narrow hP h1,Ap.narrow hE h1,hT,hg⟩
theorem Bt.wide {vL:Value} {M M':List Nat} {q:Nat} {c:Ac} {B:List BK} {g:Int} {w:World} (h:Bt vL M q c B g w) (h1:∀j∈M,j∈M') (h2:∀j∈M',j∈M∨w.heap.size≤j):Bt vL M' q c B g w:=by
 unfold Bt at *;rw [Mr h1 h2];exact ⟨h1 _ h.1,h.2⟩
theorem Bt.narrow {vL:Value} {M M':List Nat} {q:Nat} {c:Ac} {B:List BK} {g:Int} {w:World} (h:Bt vL M q c B g w) (h1:∀j∈M',j∈M) (hq:q∈M'):Bt vL M' q c B g w:=by
 obtain ⟨_,vP,vE,hT,h8,hF,hP,hE⟩:=h;exact ⟨hq,vP,vE,hT,h8,hF,Ap.narrow hP h1,Ap.narrow hE h1⟩
theorem AG.wide {M M':List Nat} {s:Nat} {x:AT} {w:World} (h:AG M s x w) (h1:∀j∈M,j∈M') (h2:∀j∈M',j∈M∨w.heap.size≤j):AG M' s x w:=by
 obtain ⟨vL,a1,a2,a3,a4,a5,a6,a7⟩:=h;exact ⟨vL,a1.wide h1 h2,a2,a3,fun k hk=>h1 _ (a4 k hk),fun y hy=>⟨(a5 y hy).1.wide h1 h2,(a5 y hy).2⟩,a6,a7⟩
theorem AG.inM {M:List Nat} {s:Nat} {x:AT} {w:World} (h:AG M s x w):∀j∈x.own s,j∈M:=fun j hj=>by
 obtain ⟨vL,a1,a2,a3,a4,a5,a6,a7⟩:=h;unfold AT.own at hj;rcases ja.1 hj with e|hj
 ·rw [e];exact a1.1
 ·rcases jT.1 hj with hj|hj
  ·exact a4 j hj
  ·obtain ⟨y,hy,hj⟩:=jd.1 hj;rcases ja.1 hj with e|hj
   ·rw [e];exact (a5 y hy).1.1
   ·exact (a5 y hy).1.2.1 j hj
theorem AG.narrow {M M':List Nat} {s:Nat} {x:AT} {w:World} (h:AG M s x w) (h1:∀j∈M',j∈M) (h2:∀j∈x.own s,j∈M'):AG M' s x w:=by
 obtain ⟨vL,a1,a2,a3,a4,a5,a6,a7⟩:=h;refine ⟨vL,a1.narrow h1 (h2 _ (by simp [AT.own])),a2,a3,fun k hk=>h2 _ (by simp [AT.own,hk]),fun y hy=>⟨(a5 y hy).1.narrow h1 (h2 _ ?_) (fun k hk=>h2 _ ?_),(a5 y hy).2⟩,a6,a7⟩
 ·have:=(Hy hy).1;simp [AT.own,this]
 ·have:=(Hy hy).2 k hk;simp [AT.own,this]
theorem AG.nodup {M:List Nat} {s:Nat} {x:AT} {w:World} (h:AG M s x w):(x.own s).Nodup:=by
 obtain ⟨vL,a1,a2,a3,a4,a5,a6,a7⟩:=h;exact a6
theorem Lr {vL:Value} {M:List Nat} {s:Nat} {c:Ac} {B':List BK} {g':Int} {L:List Nat} {ps:List (Nat×AF×List Nat)} {w w':World} (h2:Eu w vL (ps.map fun y=>y.1)) (h3:gl vL=L) (h4:∀k∈L,k∈M) (h5:∀y∈ps,Br M y.1 y.2.1 y.2.2 w∧y.2.1.OK) (h6:(s::(L++Bh ps)).Nodup) (h7:ps.length≤4) (hs:s∈M) (k:Ab [s] w w') (hS:Bt vL M s c B' g' w'):AG M s ⟨c,B',g',L,ps⟩ w':=by
 have hn:=(List.nodup_cons.1 h6).1;have hM:∀j∈[s],j∈M∨w.heap.size≤j:=fun j hj=>by rw [jP.1 hj];exact Or.inl hs
 refine ⟨vL,hS,MO h2 k (fun g hg hm=>hn ?_),h3,h4,fun y hy=>⟨(h5 y hy).1.but k (fun hm=>hn ?_) (fun j hj hm=>hn ?_) hM,(h5 y hy).2⟩,h6,h7⟩
 ·rw [jP.1 hm,h3] at hg;exact jg _ hg
 ·rw [←jP.1 hm];exact jU _ (Hy hy).1
 ·rw [←jP.1 hm];exact jU _ ((Hy hy).2 j hj)
def Ia (M:List Nat) (q:Nat) (x:AT) (err:Int) (w:World) (e:Ending) (w':World):Prop:=e= .returned (.int .i64 err)∧Ab [q] w w'∧AG M q x w'
section
variable (M:List Nat) (q:Nat) (c:Ac) (B:List BK) (g:Int) {L:List Nat} {ps:List (Nat×AF×List Nat)}
theorem Se (id:ByteArray) (n:Int) (w:World) (hS:AG M q ⟨c,B,g,L,ps⟩ w) (hM:∀k∈M,k<w.heap.size) (hc:c.OK) (hB:AH B) (hg0:0≤g) (hg1:g≤4611686018427387904):
  Calls Tryz.prog 24 #[.pointer (some ⟨q,0,none⟩),.string id,.int .i64 n] w (Ia M q ⟨c,Dj B id n,if Cw B id n=0 then g+1 else g,L,ps⟩ (Cw B id n) w):=by
 obtain ⟨vL,h1,h2,h3,h4,h5,h6,h7⟩:=hS;refine (KV M q c B g id n w h1 hM hc hB hg0 hg1).mono ?_;rintro e w' ⟨rfl,hb,hS'⟩;exact ⟨rfl,hb,Lr h2 h3 h4 h5 h6 h7 h1.1 hb hS'⟩
theorem Wi (id:ByteArray) (w:World) (hS:AG M q ⟨c,B,g,L,ps⟩ w) (hM:∀k∈M,k<w.heap.size) (hc:c.OK) (hB:AH B) (hg0:0≤g) (hg1:g≤4611686018427387904):
  Calls Tryz.prog 95 #[.pointer (some ⟨q,0,none⟩),.string id] w (Ia M q ⟨c,EQ B id,if Ej B id=0 then g+1 else g,L,ps⟩ (Ej B id) w):=by
 obtain ⟨vL,h1,h2,h3,h4,h5,h6,h7⟩:=hS;refine (SG M q c B g id w h1 hM hc hB hg0 hg1).mono ?_;rintro e w' ⟨rfl,hb,hS'⟩;exact ⟨rfl,hb,Lr h2 h3 h4 h5 h6 h7 h1.1 hb hS'⟩
theorem TX (id:ByteArray) (n:Int) (w:World) (hS:AG M q ⟨c,B,g,L,ps⟩ w) (hM:∀k∈M,k<w.heap.size) (hc:c.OK) (hB:AH B) (hg0:0≤g) (hg1:g≤4611686018427387904):
  Calls Tryz.prog 96 #[.pointer (some ⟨q,0,none⟩),.string id,.int .i64 n] w (Ia M q ⟨c,Er B id n,if Dy B id n=0 then g+1 else g,L,ps⟩ (Dy B id n) w):=by
 obtain ⟨vL,h1,h2,h3,h4,h5,h6,h7⟩:=hS;refine (Qt M q c B g id n w h1 hM hc hB hg0 hg1).mono ?_;rintro e w' ⟨rfl,hb,hS'⟩;exact ⟨rfl,hb,Lr h2 h3 h4 h5 h6 h7 h1.1 hb hS'⟩
theorem N9 (w:World) (hS:AG M q ⟨c,B,g,L,ps⟩ w):
  Calls Tryz.prog 101 #[.pointer (some ⟨q,0,none⟩)] w fun e w'=>e= .returned (.int .i64 g)∧w=w':=by
 obtain ⟨vL,h1, -⟩:=hS;exact YQ M q c B g w h1
theorem UC (w:World) (hS:AG M q ⟨c,B,g,L,ps⟩ w) (hE:(An c B).length≤65536):
  Calls Tryz.prog 25 #[.pointer (some ⟨q,0,none⟩)] w (Lx w (CM B (An c B))):=by
 obtain ⟨vL,h1, -⟩:=hS;exact PP M q c B g w h1 hE
theorem Uf (k:ByteArray) (w:World) (hS:AG M q ⟨c,B,g,L,ps⟩ w) (hE:(An c B).length≤65536) (hc:c.OK) (hk:k.size≤4611686018427386000):
  Calls Tryz.prog 103 #[.pointer (some ⟨q,0,none⟩),.string k] w (EH w (IT c B g k)):=by
 obtain ⟨vL,h1, -⟩:=hS;exact U1 M q c B g k w h1 hE hc hk
end
theorem Tj (M:List Nat) (q:Nat) (c:Ac) (B:List BK) (g:Nat) {L:List Nat} {ps:List (Nat×AF×List Nat)} (f:Int) (w:World) (hS:AG M q ⟨c,B,(g:Int),L,ps⟩ w) (hE:(An c B).length≤65536) (hc:c.OK) (hB:AL B) (hg:g≤4611686018427387904):
  Calls Tryz.prog 99 #[.pointer (some ⟨q,0,none⟩),.int .i64 f] w (Ff w (I9 f g c B (An c B))):=by
 obtain ⟨vL,⟨_,vP,vE,hT,h8,hF,hP,hE'⟩, -⟩:=hS;exact YB q f g c vP vE B (An c B) w hT h8 (Ap.unmask hP) (Ap.unmask hE') hB ((Ac.ok_iff c).1 hc).1 (PI c hB) hE hg
theorem Uq (M:List Nat) (q:Nat) (c:Ac) (B:List BK) (g:Nat) {L:List Nat} {ps:List (Nat×AF×List Nat)} (t:ByteArray) (w:World) (hS:AG M q ⟨c,B,(g:Int),L,ps⟩ w) (hE:(An c B).length≤65536) (hc:c.OK) (hB:AL B) (hg:g≤4294967296) (ht:t.size≤1099511627776):
  Calls Tryz.prog 30 #[.pointer (some ⟨q,0,none⟩),.string t] w (DE w (GO c.formats.toNat g c B (An c B) t.data.toList)):=by
 obtain ⟨vL,⟨_,vP,vE,hT,h8,hF,hP,hE'⟩, -⟩:=hS;have hf:=((Ac.ok_iff c).1 hc).2;exact Tn q c.formats.toNat g c vP vE B (An c B) t w hT (by omega) h8 (Ap.unmask hP) (Ap.unmask hE') hB ((Ac.ok_iff c).1 hc).1 (PI c hB) hE hg (by omega) ht
theorem OH (a:Nat) (y:Nat×AF×List Nat):∀(l:List (Nat×AF×List Nat)) (k:Nat) (hk:k<l.length),(Bh (l.set k y)).count a+(l[k].1::l[k].2.2).count a=(Bh l).count a+(y.1::y.2.2).count a:=by
 intro l
 induction l with
 |nil=>intro k hk;simp at hk
 |cons z l ih=>
  intro k hk;unfold Bh at *;cases k with
  |zero=>simp only [List.set_cons_zero,List.flatMap_cons,List.count_append,List.getElem_cons_zero];omega
  |succ k=>
   have:=ih k (by simpa using hk);simp only [List.set_cons_succ,List.flatMap_cons,List.count_append,List.getElem_cons_succ];omega
theorem Dv {a:Nat} {l:List Nat}:a∈l↔1≤l.count a:=List.count_pos_iff.symm
theorem Ji {l:List Nat} (h:l.Nodup) (a:Nat):l.count a≤1:=List.nodup_iff_count.1 h a
theorem O8 (v:Value):(gl v).Nodup:=by
 unfold gl;cases v.ownBlock <;>simp
theorem FZ (x:AT) (s a:Nat):(x.own s).count a=[s].count a+x.L.count a+(Bh x.ps).count a:=by
 have:x.own s=[s]++(x.L++Bh x.ps):=rfl;rw [this];simp only [List.count_append];omega
theorem JW {l:List (Nat×AF×List Nat)} {k:Nat} (hk:k<l.length) (a:Nat):(l[k].1::l[k].2.2).count a≤(Bh l).count a:=by
 induction l generalizing k with
 |nil=>simp at hk
 |cons z l ih=>
  unfold Bh at *;cases k with
  |zero=>simp only [List.flatMap_cons,List.count_append,List.getElem_cons_zero];omega
  |succ k=>
   have:=ih (k:=k) (by simpa using hk);simp only [List.flatMap_cons,List.count_append,List.getElem_cons_succ];omega
theorem NA {l:List (Nat×AF×List Nat)} {i k:Nat} (hi:i<l.length) (hk:k<l.length) (hne:i≠k) (a:Nat):(l[i].1::l[i].2.2).count a+(l[k].1::l[k].2.2).count a≤(Bh l).count a:=by
 induction l generalizing i k with
 |nil=>simp at hk
 |cons z l ih=>
  unfold Bh at *;cases i with
  |zero=>
   cases k with
   |zero=>exact absurd rfl hne
   |succ k=>
    have:=JW (l:=l) (k:=k) (by simpa using hk) a;unfold Bh at this;simp only [List.flatMap_cons,List.count_append,List.getElem_cons_succ,List.getElem_cons_zero];omega
  |succ i=>
   cases k with
   |zero=>
    have:=JW (l:=l) (k:=i) (by simpa using hi) a;unfold Bh at this;simp only [List.flatMap_cons,List.count_append,List.getElem_cons_succ,List.getElem_cons_zero];omega
   |succ k=>
    have:=ih (i:=i) (k:=k) (by simpa using hi) (by simpa using hk) (by omega);simp only [List.flatMap_cons,List.count_append,List.getElem_cons_succ];omega
def AT.setP (x:AT) (n q:Nat) (p:AF) (R:List Nat):AT:={x with ps:=x.ps.set n (q,p,R)}
theorem AG.plane {M:List Nat} {s:Nat} {x:AT} {w w':World} {n:Nat} {p':AF} (h:AG M s x w) (hM:∀k∈M,k<w.heap.size) (hn:n<x.ps.length) (hp:p'.OK) (hT:Hc M x.ps[n].1 x.ps[n].2.2 p' w w'):
  ∃R',(∀k∈R',(k∈x.ps[n].2.2∨w.heap.size≤k)∧k<w'.heap.size)∧Ab (x.ps[n].1::x.ps[n].2.2) w w'∧AG (R'++M) s (x.setP n x.ps[n].1 p' R') w':=by
 obtain ⟨hb,N,R',hN,hR,hP⟩:=hT;have hin:=h.inM;have hnd:=h.nodup;have hc:=Ji hnd;have he:=FZ x s;have hone:=fun a=>JW hn a
 have hqR:∀j∈x.ps[n].1::x.ps[n].2.2,j∈M:=fun j hj=>hin j (Dv.2 (by have:=Dv.1 hj;have:=hone j;have:=he j;omega))
 have hMw:∀j∈x.ps[n].1::x.ps[n].2.2,j∈N++M∨w.heap.size≤j:=fun j hj=>Or.inl (jU _ (hqR j hj))
 have hg:=h.grow N hN;obtain ⟨vL,a1,a2,a3,a4,a5,a6,a7⟩:=hg;have hR1:∀k∈R',k∈x.ps[n].2.2∨w.heap.size≤k:=fun k hk=>(hR k hk).imp id (hN k)
 have hRn:R'.Nodup:=by
  obtain ⟨_,_,vP,vE,vT,_,_,_,_,hgl⟩:=hP;rw [←hgl];exact O8 _
 have hRl:∀k∈R',k<w'.heap.size:=fun k hk=>by
  obtain ⟨_,_,vP,vE,vT,_,_,_,hTh,hgl⟩:=hP;rw [←hgl] at hk;exact (World.ownsRow.lt hTh k (by unfold gl at hk;simpa using hk)).2
 have hset:=fun a=>OH a (x.ps[n].1,p',R') x.ps n hn
 have hsN:s∉x.ps[n].1::x.ps[n].2.2:=fun e=>by
  have b1:=Dv.1 e;have b2:=hone s;have b3:=he s;have b4:=hc s;have b5:[s].count s=1:=by simp
  omega
 have hLN:∀k∈x.L,k∉x.ps[n].1::x.ps[n].2.2:=fun k hk e=>by
  have b1:=Dv.1 e;have b2:=hone k;have b3:=he k;have b4:=hc k;have b5:=Dv.1 hk;omega
 have hfin:AG (N++M) s (x.setP n x.ps[n].1 p' R') w':=by
  refine ⟨vL,a1.but hb hsN hMw,?_,a3,a4,fun y hy=>?_,?_,by simpa [AT.setP] using a7⟩
  ·have e:((x.setP n x.ps[n].1 p' R').ps.map fun y=>y.1)=x.ps.map fun y=>y.1:=by
    unfold AT.setP;apply List.ext_getElem
    ·simp
    ·intro i i1 i2;simp only [List.getElem_map,List.getElem_set];split
     ·rename_i e;subst e;rfl
     ·rfl
   rw [e]
   exact MO a2 hb (fun k hk=>hLN k (by rw [←a3];exact hk))
  ·obtain ⟨i,hi,rfl⟩:=List.mem_iff_getElem.1 hy;have hi':i<x.ps.length:=by simpa [AT.setP] using hi
   by_cases hin2:n=i
   ·subst hin2;simp only [AT.setP,List.getElem_set_self];exact ⟨hP,hp⟩
   ·simp only [AT.setP,List.getElem_set_ne hin2];refine ⟨(a5 _ (jJ hi')).1.but hb (fun e=>?_) (fun j hj e=>?_) hMw,(a5 _ (jJ hi')).2⟩
    ·have b1:=NA hi' hn (Ne.symm hin2) x.ps[i].1;have b2:=Dv.1 e;have b3:=he x.ps[i].1;have b4:=hc x.ps[i].1;have b5:1≤(x.ps[i].1::x.ps[i].2.2).count x.ps[i].1:=Dv.1 (by simp);omega
    ·have b1:=NA hi' hn (Ne.symm hin2) j;have b2:=Dv.1 e;have b3:=he j;have b4:=hc j;have b5:1≤(x.ps[i].1::x.ps[i].2.2).count j:=Dv.1 (jW _ hj);omega
  ·refine List.nodup_iff_count.2 fun a=>?_
   have e1:=FZ (x.setP n x.ps[n].1 p' R') s a;rw [e1];have e2:=hset a;have e3:=he a;have e4:=hc a;have e5:=Ji hRn a;show [s].count a+x.L.count a+(Bh (x.ps.set n (x.ps[n].1,p',R'))).count a≤1;simp only [List.count_cons] at e2 e3 ⊢;by_cases hm:a∈R'
   ·rcases hR1 a hm with e|e
    ·have a5:=Dv.1 e;omega
    ·have a5:(x.own s).count a=0:=jZ fun e2=>by
      have:=hM a (hin a (jb.1 e2));omega
     have a6:(if (x.ps[n].1==a)=true then 1 else 0)=0:=by
      rw [if_neg];intro e6;have:=hM _ (hqR x.ps[n].1 (by simp));have:x.ps[n].1=a:=by simpa using e6
      omega
     omega
   ·have a5:R'.count a=0:=jZ fun e2=>hm (jb.1 e2)
    omega
 refine ⟨R',fun k hk=>⟨hR1 k hk,hRl k hk⟩,hb,hfin.narrow (fun j hj=>?_) (fun j hj=>?_)⟩
 ·rcases jT.1 hj with hj|hj
  ·exact (hP.2.1 j hj)
  ·exact jU _ hj
 ·have e1:=FZ (x.setP n x.ps[n].1 p' R') s j;have e2:=hset j;have e3:=he j;have e4:=Dv.1 hj;rw [e1] at e4;by_cases hm:j∈R'
  ·exact jg _ hm
  ·refine jU _ (hin j (Dv.2 ?_));have a5:R'.count j=0:=jZ fun e2=>hm (jb.1 e2)
   simp only [AT.setP,List.count_cons] at *;omega
def Ml (M:List Nat) (s:Nat) (x:AT) (n:Nat) (hn:n<x.ps.length) (p':AF) (w:World) (e:Ending) (w':World):Prop:=e= .returned (.int .i64 0)∧∃R',(∀k∈R',(k∈x.ps[n].2.2∨w.heap.size≤k)∧k<w'.heap.size)∧Ab (x.ps[n].1::x.ps[n].2.2) w w'∧AG (R'++M) s (x.setP n x.ps[n].1 p' R') w'
theorem U8 {M:List Nat} {s:Nat} {x:AT} {n:Nat} {w:World} (h:AG M s x w) (hM:∀k∈M,k<w.heap.size) (hn:n<x.ps.length) (t:ByteArray) (ht:t.size≤1099511627776):
  Calls Tryz.prog 31 #[.pointer (some ⟨s,0,none⟩),.int .i64 (n:Int),.string t] w (Ml M s x n hn (Ju x.ps[n].2.1 t.data.toList) w):=by
 have hp:=h.pl hn;refine (T4 ((h.dp n).1 n hn rfl) hp.1 hp.2 hM ht).mono ?_;rintro e w' ⟨rfl,hT⟩;exact ⟨rfl,h.plane hM hn (X9 hp.2 _) hT⟩
theorem Wt {M:List Nat} {s:Nat} {x:AT} {n:Nat} {w:World} (h:AG M s x w) (hM:∀k∈M,k<w.heap.size) (hn:n<x.ps.length):
  Calls Tryz.prog 78 #[.pointer (some ⟨s,0,none⟩),.int .i64 (n:Int)] w (Ml M s x n hn (DX x.ps[n].2.1.fm) w):=by
 have hp:=h.pl hn;refine (RN ((h.dp n).1 n hn rfl) hp.1).mono ?_;rintro e w' ⟨rfl,hT⟩;exact ⟨rfl,h.plane hM hn (Oc hp.2.fm) hT⟩
theorem XD {M:List Nat} {s:Nat} {x:AT} {n:Nat} {w:World} (h:AG M s x w) (hn:n<x.ps.length):
  Calls Tryz.prog 29 #[.pointer (some ⟨s,0,none⟩),.int .i64 (n:Int)] w (Ff w (IS x.ps[n].2.1.g x.ps[n].2.1.fm x.ps[n].2.1.cg x.ps[n].2.1.cf x.ps[n].2.1.T,0)):=
 Rc ((h.dp n).1 n hn rfl) (h.pl hn).1 (h.pl hn).2
theorem TZ {M:List Nat} {s:Nat} {x:AT} {n:Nat} {w:World} (h:AG M s x w) (hn:n<x.ps.length):
  Calls Tryz.prog 32 #[.pointer (some ⟨s,0,none⟩),.int .i64 (n:Int)] w (F4 w (Ix x.ps[n].2.1.g x.ps[n].2.1.nf)):=
 QG ((h.dp n).1 n hn rfl) (h.pl hn).1
theorem YC {M:List Nat} {s:Nat} {x:AT} {n:Nat} {w:World} (h:AG M s x w) (hn:n<x.ps.length) (k:ByteArray) (hk:k.size≤4611686018427386000):
  Calls Tryz.prog 33 #[.pointer (some ⟨s,0,none⟩),.int .i64 (n:Int),.string k] w (EH w (IR x.ps[n].2.1.g x.ps[n].2.1.c x.ps[n].2.1.B x.ps[n].2.1.E k)):=
 XE ((h.dp n).1 n hn rfl) (h.pl hn).1 (h.pl hn).2 hk
def Oz (M:List Nat) (s:Nat) (x:AT) (fm:Nat) (w:World) (e:Ending) (w':World):Prop:=∃p L',e= .returned (.tuple #[.int .i64 (x.ps.length:Int),.int .i64 0])∧Ab (s::x.L) w w'∧(w.heap.size≤p∧p<w'.heap.size)∧(∀k∈L',(k∈x.L∨w.heap.size≤k)∧k<w'.heap.size)∧AG (p::(L'++M)) s {x with L:=L',ps:=x.ps++[(p,DX fm,[])]} w'
theorem Qv {M:List Nat} {s:Nat} {x:AT} {fm:Nat} {w:World} (h:AG M s x w) (hM:∀k∈M,k<w.heap.size) (hl:x.ps.length<4) (hf:1≤fm∧fm≤3):
  Calls Tryz.prog 28 #[.pointer (some ⟨s,0,none⟩),.int .i64 (fm:Int)] w (Oz M s x fm w):=by
 have hin:=h.inM;have hnd:=h.nodup;have hc:=Ji hnd;have he:=FZ x s;obtain ⟨vL,a1,a2,a3,a4,a5,a6,a7⟩:=h;have hlt:=a1.lt
 have hsL:s∉x.L:=fun e=>by
  have b1:=Dv.1 e;have b3:=he s;have b4:=hc s;have b5:[s].count s=1:=by simp
  omega
 obtain ⟨hsM,vP,vE,hT,h8,hF,hP,hE⟩:=a1;refine (XM s fm vL (x.ps.map fun y=>y.1) w hF.2.1 hF.2.2 a2 (by simpa using hl) hf (fun e=>hsL (by rw [←a3];unfold gl;rw [e];simp))).mono ?_;rintro e w' ⟨p,v',rfl,hb,hp,hX,c9,hrow,hv1,hv2,hk⟩;rw [a3] at hb hv1;have hgl:∀k∈gl v',v'.ownBlock=some k:=fun k hk=>by unfold gl at hk;simpa using hk
 have hL1:∀k∈gl v',(k∈x.L∨w.heap.size≤k)∧k<w'.heap.size:=fun k hk=>⟨hv1 k (hgl k hk),(World.ownsRow.lt hrow k (hgl k hk)).2⟩
 refine ⟨p,gl v',by simp,hb,⟨hp,hX.lt⟩,hL1,?_⟩;have w1:∀j∈M,j∈p::(gl v'++M):=fun j hj=>by simp [hj]
 have w2:∀j∈p::(gl v'++M),j∈M∨w.heap.size≤j:=fun j hj=>by
  rcases ja.1 hj with e|hj
  ·rw [e];exact Or.inr hp
  ·rcases jT.1 hj with hj|hj
   ·exact (hL1 j hj).1.imp (a4 j) id
   ·exact Or.inl hj
 have hMw:∀j∈s::x.L,j∈p::(gl v'++M)∨w.heap.size≤j:=fun j hj=>by
  rcases ja.1 hj with e|hj
  ·rw [e];exact Or.inl (w1 _ hsM)
  ·exact Or.inl (w1 _ (a4 j hj))
 have hmb:Aa (Ay (p::(gl v'++M)) w) (Ay (p::(gl v'++M)) w'):=hb.mono hMw;rw [←Mr w1 w2] at hP hE;have hk0:∀{o:Nat} {u:Value},o≠9→w.cell? ⟨s,o,none⟩=some u→w'.cell? ⟨s,o,none⟩=some u:=fun ho hu=>(hk.1 _ ho).trans hu
 have hfr:∀{o:Nat},w.frozen? ⟨s,o,none⟩=false→w'.frozen? ⟨s,o,none⟩=false:=fun hu=>(hk.2 _).trans hu
 obtain ⟨⟨t0,t1,t2,t3,t4,t5⟩,t6,t7⟩:=hT;obtain ⟨⟨f0,f1,f2,f3,f4,f5,f6,f7,f8⟩, -,f9⟩:=hF
 have hblk:∀j∈Bh x.ps,j∈M∧j∉s::x.L:=fun j hj=>by
  have b1:=Dv.1 hj;have b3:=he j;have b4:=hc j;refine ⟨hin j (Dv.2 (by omega)),fun e=>?_⟩;have b5:=Dv.1 e
  have b6:(s::x.L).count j=[s].count j+x.L.count j:=by
   have:s::x.L=[s]++x.L:=rfl;rw [this,List.count_append]
  omega
 refine ⟨v',⟨w1 _ hsM,vP,vE,⟨⟨hk0 (by decide) t0,hk0 (by decide) t1,hk0 (by decide) t2,hk0 (by decide) t3,hk0 (by decide) t4,hk0 (by decide) t5⟩,hk0 (by decide) t6,hk0 (by decide) t7⟩,hk0 (by decide) h8,⟨⟨hfr f0,hfr f1,hfr f2,hfr f3,hfr f4,hfr f5,hfr f6,hfr f7,hfr f8⟩,c9,hfr f9⟩,hP.later hmb,hE.later hmb⟩,by simpa using hrow,rfl,fun k hk=>by simp [hk],fun y hy=>?_,?_,by simp;omega⟩
 ·rcases jT.1 hy with hy|hy
  ·have hbm:=Hy hy;exact ⟨((a5 y hy).1.wide w1 w2).but hb (hblk _ hbm.1).2 (fun j hj=>(hblk _ (hbm.2 j hj)).2) hMw,(a5 y hy).2⟩
  ·rw [jP.1 hy];exact ⟨Br.ofNew hX (by simp),Oc hf⟩
 ·refine List.nodup_iff_count.2 fun a=>?_
  have e1:=FZ {x with L:=gl v',ps:=x.ps++[(p,DX fm,[])]} s a;rw [e1]
  have e2:(Bh (x.ps++[(p,DX fm,[])])).count a=(Bh x.ps).count a+[p].count a:=by
   unfold Bh;rw [List.flatMap_append,List.count_append];rfl
  show [s].count a+(gl v').count a+(Bh (x.ps++[(p,DX fm,[])])).count a≤1;rw [e2];have e3:=he a;have e4:=hc a;have e5:=Ji (O8 v') a
  have e6:w.heap.size≤a→(x.own s).count a=0:=fun h=>jZ fun e2=>by
   have:=hM a (hin a (jb.1 e2));omega
  have e7:[p].count a≤1:=Ji (by simp) a;by_cases hm:a∈gl v'
  ·have e8:=hv2 a (hgl a hm);have e9:[p].count a=0:=jZ fun e2=>e8.1 (jP.1 (jb.1 e2))
   have e10:[s].count a=0:=jZ fun e2=>e8.2 (jP.1 (jb.1 e2))
   rcases (hL1 a hm).1 with e|e
   ·have:=Dv.1 e;omega
   ·have:=e6 e;omega
  ·have e8:(gl v').count a=0:=jZ fun e2=>hm (jb.1 e2)
   by_cases hpa:a=p
   ·have:=e6 (by omega);omega
   ·have e9:[p].count a=0:=jZ fun e2=>hpa (jP.1 (jb.1 e2))
    omega
theorem XH {M:List Nat} {s:Nat} {x:AT} {f:Int} {w:World} (h:AG M s x w) (hl:4≤x.ps.length) (hf:1≤f∧f≤3):
  Calls Tryz.prog 28 #[.pointer (some ⟨s,0,none⟩),.int .i64 f] w (F4 w (-1,6)):=by
 obtain ⟨vL,⟨_,vP,vE,hT,h8,hF,hP,hE⟩,a2, -⟩:=h;exact Ue s f vL _ w hF.2.1 a2 (by simpa using hl) hf
theorem NG (l:List UInt8):(Ai l).size=l.length:=by simp [Ai,ByteArray.size]
theorem Jf (x:BitVec 32):(Cn x).length=4:=rfl
theorem Py {f g:Nat} {c:Ac} {B:List BK} {E:List EI} (hc:c.TOK) (hB:AL B) (hE:E.length≤65536):(BJ f g c B E).length≤16777216:=by
 have h1:=Jb (f:=f) (g:=g) (c:=c) hc.2.2.2.2.2.2.2.2.2 hB hE;unfold BJ;rw [jO,Jf];omega
theorem Yh {f:Int} {g:Nat} {c:Ac} {B:List BK} {E:List EI} (hc:c.TOK) (hB:AL B) (hE:E.length≤65536):(I9 f g c B E).1.length≤16777216:=by
 unfold I9;split
 ·split
  ·simp
  ·exact Py hc hB hE
 ·simp
theorem Zm {b s g:Nat} {B:List BK} {ah bh:Nat} {M:List EI} {alg:Int} (hB:AL B) (hM:M.length≤65536):(G6 b s g B ah bh M alg).length≤16777216:=by
 have h1:=jX (Gi _ (Hl b s g B ah bh M alg) (jH _)) (PC hB hM);unfold G6;rw [jO,Jf];omega
theorem QQ (l1 l2:List UInt8):(DN l1 l2).1.length≤16777216:=by
 unfold DN;split
 ·rename_i h1 h2;have ok2:=Hp h2;split
  ·have hl:=ok2.len;exact Zm ok2.good.1 (jX (List.length_take_le' _ _) (jX (by rw [jh];exact Nat.sub_le _ _) (jX hl (by decide))))
  ·simp
 ·simp
theorem Rb (l1 l2:List UInt8):(DH l1 l2).1.length≤16777216:=by
 unfold DH;split
 ·rename_i h1;have ok1:=Hp h1;split
  ·rename_i h2;have ok2:=PY h2;split
   ·split
    ·split
     ·rename_i hr;have h3:=LU ok1.tok ok2.good.1;have h4:=hr.2.1;exact Py ok1.tok ok2.good.1 (by omega)
     ·simp
    ·simp
   ·simp
  ·simp
 ·simp
theorem Q6 (g fm cg cf:Nat) (T:List TP):(IS g fm cg cf T).length≤16777216:=by
 unfold IS;rw [jO,Jf];have h1:=Gi _ (DL g fm cg cf (Dq T)) (jH _);have h2:(DL g fm cg cf (Dq T)).length≤1000:=by simp [DL,Bd,Bk]
 omega
theorem SP (a:Bl) (h:a.2.2.2.2.2.length≤48):(Hu a).length≤16777216:=by
 unfold Hu;split
 ·rw [jO,Jf];have h1:=Gi _ (Et a.2.1 a.2.2.1 a.2.2.2.1 a.2.2.2.2.1 (Ai a.2.2.2.2.2)) (jH _);have h2:(Ai a.2.2.2.2.2).data.toList=a.2.2.2.2.2:=rfl
  have h3:(Et a.2.1 a.2.2.1 a.2.2.2.1 a.2.2.2.2.1 (Ai a.2.2.2.2.2)).length≤1000:=by
   unfold Et DB;rw [h2];simp only [jO,Bd,Bk,List.length_nil,List.length_cons];omega
  omega
 ·rw [jO,Jf];have h1:=Gi _ (DB a.1) (jH _);have h3:(DB a.1).length≤1000:=by simp [DB,Bd,Bk]
  omega
theorem Tq (fm g:Nat) (c:Ac) (B:List BK) (E:List EI) (l:List UInt8):(GO fm g c B E l).length≤16777216:=by
 unfold GO;split
 ·refine SP _ ?_;unfold Ef;split
  ·simp
  ·split
   ·simp
   ·dsimp only;exact PM _ _
 ·simp
end Go.Proofs.YtpapdkhjdelfcabGreat
