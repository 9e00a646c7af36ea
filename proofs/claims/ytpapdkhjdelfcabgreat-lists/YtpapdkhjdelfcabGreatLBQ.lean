import Derived.Test.YtpapdkhjdelfcabGreatLBP
namespace Go.Proofs.YtpapdkhjdelfcabGreat
open Go.RowKit
set_option maxRecDepth 100000
set_option maxHeartbeats 4000000
theorem PN {α:Type} (f:α→List Nat) (a:Nat) (y:α):∀(l:List α) (k:Nat) (hk:k<l.length),((l.set k y).flatMap f).count a+(f l[k]).count a=(l.flatMap f).count a+(f y).count a:=by
 intro l
 induction l with
 |nil=>intro k hk;simp at hk
 |cons z l ih=>
  intro k hk;cases k with
  |zero=>simp [List.count_append];omega
  |succ k=>
   have:=ih k (by simpa using hk);simp [List.count_append] at this ⊢;omega
theorem FL {α:Type} (f:α→List Nat) (a:Nat):∀(l:List α) (y:α),y∈l→(f y).count a≤(l.flatMap f).count a:=by
 intro l
 induction l with
 |nil=>intro y hy;simp at hy
 |cons z l ih=>
  intro y hy;rcases ja.1 hy with rfl|hy
  ·simp [List.count_append]
  ·have:=ih y hy;simp [List.count_append] at this ⊢;omega
theorem MJ {α:Type} (f:α→List Nat) (a:Nat):∀(l:List α) (i k:Nat) (hi:i<l.length) (hk:k<l.length),i≠k→(f l[i]).count a+(f l[k]).count a≤(l.flatMap f).count a:=by
 intro l
 induction l with
 |nil=>intro i k hi hk;simp at hi
 |cons z l ih=>
  intro i k hi hk hne;cases i with
  |zero=>
   cases k with
   |zero=>exact absurd rfl hne
   |succ k=>
    have:=FL f a l (l[k]'(by simpa using hk)) (jJ _);simp [List.count_append] at this ⊢;omega
  |succ i=>
   cases k with
   |zero=>
    have:=FL f a l (l[i]'(by simpa using hi)) (jJ _);simp [List.count_append] at this ⊢;omega
   |succ k=>
    have:=ih i k (by simpa using hi) (by simpa using hk) (by omega);simp [List.count_append] at this ⊢;omega
theorem Ak {a:Nat} {l:List Nat}:a∈l↔1≤l.count a:=List.count_pos_iff.symm
theorem DK {l:List Nat} (h:l.Nodup) (a:Nat):l.count a≤1:=List.nodup_iff_count.1 h a
theorem Cm {a:Nat} {l:List Nat} (h:a∈l) (h0:l.count a=0):False:=by
 have:=Ak.1 h;omega
theorem Ah.At.app {base:Nat} {L M:List Nat} {x:Ah} {w:World} (h:x.At base M w) (hL:∀j∈L,j∈M∨w.heap.size≤j):x.At base (L++M) w:=by
 induction L with
 |nil=>exact h
 |cons a L ih=>exact (ih (fun j hj=>hL j (jW _ hj))).cons (by rcases hL a (by simp) with h|h;exact Or.inl (jU _ h);exact Or.inr h)
theorem Ah.At.of_eq {base:Nat} {M M':List Nat} {x:Ah} {w:World} (h:x.At base M w) (e:M=M'):x.At base M' w:=e ▸ h
theorem WG.count (x:WG) (j:Nat):x.blocks.count j=[x.p].count j+x.vl.ownBlock.toList.count j+x.vh.ownBlock.toList.count j+x.vls.ownBlock.toList.count j+x.vlw.ownBlock.toList.count j+(x.lss.flatMap (fun l=>[l.g1,l.g2])).count j+(x.prs.flatMap Ah.blocks).count j:=by
 have:x.blocks=[x.p]++(x.vl.ownBlock.toList++x.vh.ownBlock.toList++x.vls.ownBlock.toList++x.vlw.ownBlock.toList++x.lss.flatMap (fun l=>[l.g1,l.g2])++x.prs.flatMap Ah.blocks):=rfl;rw [this];simp only [List.count_append];omega
theorem Ao.pr {W0:Aw} {s s':Nat} {x:WG} {w w':World} (h:Ao W0 s x w) (k:Nat) (hk:k<x.prs.length) (N:List Nat) (hb:Ab N w w') (hN:∀j∈N,j∈(x.prs[k]).blocks) (y:Ah) (ha:y.a=(x.prs[k]).a) (hnd:y.blocks.Nodup)
  (hnew:∀j∈y.blocks,(j∈(x.prs[k]).blocks∨w.heap.size≤j)∧j<w'.heap.size) (K:List Nat) (hK:∀j∈K,(j∈x.M∨w.heap.size≤j)∧j<w'.heap.size) (hy:y.At W0.heap.size (y.blocks++(K++x.M)) w') (hg:y.g≤s'∧y.pp.length=y.ps.length) (hs:s≤s'):Ao W0 s' {x with prs:=x.prs.set k y,M:=y.blocks++(K++x.M)} w':=by
 obtain ⟨h1,h2,h3,h4,h5,h6,h7,h8,h9,h10,h11,⟨s1,s2,s3⟩,h13,h14⟩:=h;have hc:=DK h3;have he:=WG.count x;have h1k:∀j,(x.prs[k]).blocks.count j≤(x.prs.flatMap Ah.blocks).count j:=fun j=>FL _ j _ _ (jJ _)
 have hkb:∀j∈(x.prs[k]).blocks,j∈x.blocks:=fun j hj=>by
  have a1:=Ak.1 hj;have a2:=h1k j;have a3:=he j;exact Ak.2 (by omega)
 have dj:∀j∈N,[x.p].count j=0∧x.vl.ownBlock.toList.count j=0∧x.vh.ownBlock.toList.count j=0∧x.vls.ownBlock.toList.count j=0∧x.vlw.ownBlock.toList.count j=0∧(x.lss.flatMap (fun l=>[l.g1,l.g2])).count j=0:=fun j hj=>by
  have a1:=Ak.1 (hN j hj);have a2:=h1k j;have a3:=he j;have a4:=hc j;refine ⟨?_,?_,?_,?_,?_,?_⟩<;>omega
 have hA:∀j∈y.blocks,j∈x.M∨w.heap.size≤j:=fun j hj=>(hnew j hj).1.imp (fun e=>h4 j (hkb j e)) id
 have hAK:∀j∈y.blocks++K,j∈x.M∨w.heap.size≤j:=fun j hj=>(jT.1 hj).elim (hA j) (fun e=>(hK j e).1)
 have hNN:∀j∈N,j∈y.blocks++(K++x.M)∨w.heap.size≤j:=fun j hj=>Or.inl (jU _ (jU _ (h4 j (hkb j (hN j hj)))))
 have hmap:((x.prs.set k y).map fun y=>Value.pointer (some ⟨y.a,0,none⟩))=x.prs.map fun y=>Value.pointer (some ⟨y.a,0,none⟩):=by
  apply List.ext_getElem
  ·simp
  ·intro i i1 i2;simp only [List.getElem_map,List.getElem_set];split
   ·rename_i e;subst e;rw [ha]
   ·rfl
 have hset:=fun a=>PN Ah.blocks a y x.prs k hk
 have he':=WG.count {x with prs:=x.prs.set k y,M:=y.blocks++(K++x.M)};simp only at he'
 refine ⟨h1.but hb (fun e => Cm (by simp) (dj _ e).1), Ab.belX h2 hb (fun j hj => (h5 j (h4 j (hkb j (hN j hj)))).1) (fun j hj => h4 j (hkb j (hN j hj))) (fun j hj => (jT.1 hj).elim (fun e => hA j e) (fun e => (jT.1 e).elim (fun e => (hK j e).1) Or.inl)), ?_, ?_, ?_, h6, ?_, AY h8 hb (fun g hg hgN => Cm (by simp [hg]) (dj g hgN).2.2.1), h9, AY h10 hb (fun g hg hgN => Cm (by simp [hg]) (dj g hgN).2.2.2.1),
   AY h11 hb (fun g hg hgN => Cm (by simp [hg]) (dj g hgN).2.2.2.2.1), ⟨by simp; omega, by show x.H.length ≤ _; omega, by show x.lss.length ≤ _; omega⟩, fun l hl => ?_, fun z hz => ?_⟩
 ·refine List.nodup_iff_count.2 fun a=>?_
  rw [he'];have a1:=hset a;have a2:=he a;have a3:=hc a;have a4:=DK hnd a;by_cases hm:a∈y.blocks
  ·rcases (hnew a hm).1 with e|e
   ·have a5:=Ak.1 e;omega
   ·have a5:x.blocks.count a=0:=jZ fun e2=>by
     have:=(h5 a (h4 a (jb.1 e2))).2;omega
    omega
  ·have a5:y.blocks.count a=0:=jZ fun e2=>hm (jb.1 e2)
   omega
 ·intro j hj;by_cases hm:j∈y.blocks
  ·exact jg _ hm
  ·refine jU _ (jU _ (h4 j (Ak.2 ?_)));have a0:=Ak.1 hj;rw [he'] at a0;have a1:=hset j;have a2:=he j;have a5:y.blocks.count j=0:=jZ fun e2=>hm (jb.1 e2)
   omega
 ·intro j hj;rcases jT.1 hj with hj|hj
  ·refine ⟨?_,(hnew j hj).2⟩;rcases (hnew j hj).1 with e|e
   ·exact (h5 j (h4 j (hkb j e))).1
   ·have:=h2.size;omega
  ·rcases jT.1 hj with hj|hj
   ·refine ⟨?_,(hK j hj).2⟩;rcases (hK j hj).1 with e|e
    ·exact (h5 j e).1
    ·have:=h2.size;omega
   ·exact ⟨(h5 j hj).1,jN (h5 j hj).2 hb.size⟩
 ·show w'.ownsRow _ _ _ _ (x.prs.set k y).length ((x.prs.set k y).map _);rw [hmap,List.length_set];exact AY h7 hb (fun g hg hgN=>Cm (by simp [hg]) (dj g hgN).2.1)
 ·obtain ⟨l1,l2,l3⟩:=h13 l hl;exact ⟨AY l1 hb (fun g hg hgN=>Cm (jd.2 ⟨l,hl,by simp [sl,Value.ownBlock] at hg;simp [hg]⟩) (dj g hgN).2.2.2.2.2),AY l2 hb (fun g hg hgN=>Cm (jd.2 ⟨l,hl,by simp [sl,Value.ownBlock] at hg;simp [hg]⟩) (dj g hgN).2.2.2.2.2),l3⟩
 ·obtain ⟨i,hi,rfl⟩:=List.mem_iff_getElem.1 hz;have hi':i<x.prs.length:=by simpa using hi
  by_cases hik:k=i
  ·subst hik;simp only [List.getElem_set_self];exact ⟨hy,hg⟩
  ·simp only [List.getElem_set_ne hik];refine ⟨(((h14 _ (jJ hi')).1.app hAK).of_eq (List.append_assoc _ _ _)).but hb hNN (fun j hj hjN=>?_),by have:=(h14 _ (jJ hi')).2.1;omega,(h14 _ (jJ hi')).2.2⟩;have b1:=MJ Ah.blocks j x.prs i k hi' hk (Ne.symm hik);have b2:=Ak.1 hj;have b3:=Ak.1 (hN j hjN);have b4:=he j;have b5:=hc j;omega
theorem Ao.pair {W0:Aw} {s:Nat} {x:WG} {w0 w w1:World} {g cap:Nat} (h:Ao W0 s x w0) (hbel:Aa w0 w) (y:Ah) (hy:y.At W0.heap.size (y.blocks++x.M) w) (hnd:y.blocks.Nodup) (hnew:∀j∈y.blocks,w0.heap.size≤j∧j<w.heap.size) (hyg:y.g≤s∧y.pp.length=y.ps.length)
  (hb:Ab x.vl.ownBlock.toList w w1) (hrow:w1.ownsRow W0.heap.size 77 1 (sl g (x.prs.length+1) cap) (x.prs.length+1) ((x.prs.map fun y=>Value.pointer (some ⟨y.a,0,none⟩))++[.pointer (some ⟨y.a,0,none⟩)])) (hg:x.vl.ownBlock=some g∨w.heap.size≤g):
  Ao W0 (s+1) {x with vl:=sl g (x.prs.length+1) cap,prs:=x.prs++[y],M:=g::(y.blocks++x.M)} (w1.setCell ⟨x.p,6,none⟩ (sl g (x.prs.length+1) cap)):=by
 obtain ⟨h1,h2,h3,h4,h5,h6,h7,h8,h9,h10,h11,⟨s1,s2,s3⟩,h13,h14⟩:=h;have hc:=DK h3;have he:=WG.count x;have hbs:=hbel.size
 have hO:∀j∈x.p::x.vl.ownBlock.toList,j∈x.blocks:=fun j hj=>by
  rcases ja.1 hj with rfl|hj
  ·exact Ak.2 (by have:=he x.p;have:1≤[x.p].count x.p:=Ak.1 (by simp);omega)
  ·exact Ak.2 (by have:=he j;have:=Ak.1 hj;omega)
 have hlt:∀j∈x.blocks,W0.heap.size≤j∧j<w0.heap.size:=fun j hj=>h5 j (h4 j hj)
 have dj:∀j∈x.p::x.vl.ownBlock.toList,x.vh.ownBlock.toList.count j=0∧x.vls.ownBlock.toList.count j=0∧x.vlw.ownBlock.toList.count j=0∧(x.lss.flatMap (fun l=>[l.g1,l.g2])).count j=0∧(x.prs.flatMap Ah.blocks).count j=0:=fun j hj=>by
  have a1:1≤[x.p].count j+x.vl.ownBlock.toList.count j:=by
   rcases ja.1 hj with rfl|hj
   ·have:1≤[x.p].count x.p:=Ak.1 (by simp);omega
   ·have:=Ak.1 hj;omega
  have a3:=he j;have a4:=hc j;refine ⟨?_,?_,?_,?_,?_⟩<;>omega
 have hpv:x.p∉x.vl.ownBlock.toList:=fun e=>by
  have a1:1≤[x.p].count x.p:=Ak.1 (by simp);have a2:=Ak.1 e;have a3:=he x.p;have a4:=hc x.p;omega
 have hgb:W0.heap.size≤g∧(g∈x.M∨w0.heap.size≤g):=by
  rcases hg with e|e
  ·have hm:=hO g (by simp [e]);exact ⟨(hlt g hm).1,Or.inl (h4 g hm)⟩
  ·have:=h2.size;exact ⟨by omega,Or.inr (by omega)⟩
 have hgp:g≠x.p:=by
  rcases hg with e|e
  ·exact fun e2=>hpv (by simp [e,e2])
  ·have:=(hlt x.p (hO x.p (by simp))).2;omega
 have bw1:Ab (x.p::x.vl.ownBlock.toList) w (w1.setCell ⟨x.p,6,none⟩ (sl g (x.prs.length+1) cap)):=(hb.mono (fun k hk=>Or.inl (jW _ hk))).put (Or.inl (by simp)) _;have bw:Ab (x.p::x.vl.ownBlock.toList) w0 (w1.setCell ⟨x.p,6,none⟩ (sl g (x.prs.length+1) cap)):=(Ab.of_bel hbel).trans bw1
 have hyx:∀j∈y.blocks,x.blocks.count j=0:=fun j hj=>jZ fun e2=>by
  have:=(hlt j (jb.1 e2)).2;have:=(hnew j hj).1;omega
 have hgy:y.blocks.count g=0:=jZ fun e2=>by
  have a1:=hnew g (jb.1 e2);rcases hg with e|e
  ·have:=(hlt g (hO g (by simp [e]))).2;omega
  ·omega
 have he':=WG.count {x with vl:=sl g (x.prs.length+1) cap,prs:=x.prs++[y],M:=g::(y.blocks++x.M)};simp only [show (sl g (x.prs.length+1) cap).ownBlock=some g from rfl,Option.toList_some,List.flatMap_append,List.flatMap_cons,List.flatMap_nil,List.append_nil,List.count_append] at he';have hsz:=bw1.size
 have hgl:g<(w1.setCell ⟨x.p,6,none⟩ (sl g (x.prs.length+1) cap)).heap.size:=by
  have:=(World.ownsRow.lt hrow g rfl).2;simpa [World.setCell] using this
 have hM:∀j∈x.p::x.vl.ownBlock.toList,j∈g::(y.blocks++x.M):=fun j hj=>jW _ (jU _ (h4 j (hO j hj)))
 refine ⟨((h1.later hbel).but hb hpv).set 6 _, Ab.belX h2 bw (fun j hj => (hlt j (hO j hj)).1) (fun j hj => h4 j (hO j hj)) (fun j hj => by
   rcases ja.1 hj with rfl | hj
   · exact hgb.2
   · rcases jT.1 hj with hj | hj
     · exact Or.inr (hnew j hj).1
     · exact Or.inl hj), ?_, ?_, ?_, h6, ?_, AY h8 bw (fun k hk hkN => Cm (by simp [hk]) (dj k hkN).1), h9, AY h10 bw (fun k hk hkN => Cm (by simp [hk]) (dj k hkN).2.1),
   AY h11 bw (fun k hk hkN => Cm (by simp [hk]) (dj k hkN).2.2.1), ⟨by simp; omega, by show x.H.length ≤ _; omega, by show x.lss.length ≤ _; omega⟩, fun l hl => ?_, fun z hz => ?_⟩
 ·refine List.nodup_iff_count.2 fun a=>?_
  have a1:=he' a;have a2:=he a;have a3:=hc a;have a4:=DK hnd a;refine jX (Nat.le_of_eq a1) ?_;by_cases hm:a∈y.blocks
  ·have a5:=hyx a hm
   have a6:[g].count a=0:=jZ fun e2=>by
    have:=jP.1 (jb.1 e2);subst this;exact Cm hm hgy
   omega
  ·have a5:y.blocks.count a=0:=jZ fun e2=>hm (jb.1 e2)
   rcases hg with e|e
   ·have a6:x.vl.ownBlock.toList.count a=[g].count a:=by rw [e];rfl
    omega
   ·by_cases hag:a=g
    ·subst hag
     have a6:x.blocks.count a=0:=jZ fun e2=>by
      have:=(hlt a (jb.1 e2)).2;omega
     have a7:[a].count a≤1:=DK (by simp) a;omega
    ·have a6:[g].count a=0:=jZ fun e2=>hag (jP.1 (jb.1 e2))
     omega
 ·intro j hj;have a0:=Ak.1 hj;have a1:=he' j;have a2:=he j;by_cases hm:j∈y.blocks
  ·exact jW _ (jg _ hm)
  ·by_cases hag:j=g
   ·rw [hag];exact List.mem_cons_self
   ·have a6:[g].count j=0:=jZ fun e2=>hag (jP.1 (jb.1 e2))
    have a5:y.blocks.count j=0:=jZ fun e2=>hm (jb.1 e2)
    have a7:1≤List.count j (WG.blocks {x with vl:=sl g (x.prs.length+1) cap,prs:=x.prs++[y],M:=g::(y.blocks++x.M)}):=a0;refine jW _ (jU _ (h4 j (Ak.2 ?_)));have a8:=jX a7 (Nat.le_of_eq a1);omega
 ·intro j hj;rcases ja.1 hj with rfl|hj
  ·exact ⟨hgb.1,hgl⟩
  ·rcases jT.1 hj with hj|hj
   ·have:=hnew j hj;have:=h2.size;exact ⟨by omega,by omega⟩
   ·have:=h5 j hj;exact ⟨by omega,by omega⟩
 ·have := AY hrow ((Ab.refl [x.p] w1).set (p := ⟨x.p, 6, none⟩) (by simp) (sl g (x.prs.length + 1) cap)) (fun k hk hm => by
    simp [sl, Value.ownBlock] at hk hm
    exact hgp (by omega))
  simpa using this
 ·obtain ⟨l1,l2,l3⟩:=h13 l hl;exact ⟨AY l1 bw (fun k hk hkN=>Cm (jd.2 ⟨l,hl,by simp [sl,Value.ownBlock] at hk;simp [hk]⟩) (dj k hkN).2.2.2.1),AY l2 bw (fun k hk hkN=>Cm (jd.2 ⟨l,hl,by simp [sl,Value.ownBlock] at hk;simp [hk]⟩) (dj k hkN).2.2.2.1),l3⟩
 ·rcases jT.1 hz with hz|hz
  ·refine ⟨((h14 z hz).1.app (L:=g::y.blocks) (fun j hj=>?_)).but bw (fun j hj=>Or.inl (hM j hj)) (fun j hj hjN=>Cm (jd.2 ⟨z,hz,hj⟩) (dj j hjN).2.2.2.2),by have:=(h14 z hz).2.1;omega,(h14 z hz).2.2⟩;rcases ja.1 hj with rfl|hj
   ·exact hgb.2
   ·exact Or.inr (hnew j hj).1
  ·rw [jP.1 hz];refine ⟨(hy.cons (j:=g) ?_).but bw1 (fun j hj=>Or.inl (hM j hj)) (fun j hj hjN=>?_),by omega,hyg.2⟩
   ·rcases hg with e|e
    ·exact Or.inl (jU _ (h4 g (hO g (by simp [e]))))
    ·exact Or.inr e
   ·have:=(hlt j (hO j hjN)).2;have:=(hnew j hj).1;omega
theorem Ao.keep {W0:Aw} {s:Nat} {x:WG} {w0 w w':World} {ga ca gb cb:Nat} (h:Ao W0 s x w0) (hbel:Aa w0 w) (l:GA) (hl:l.At W0.heap.size w) (hne:l.g1≠l.g2) (hnew:∀j∈[l.g1,l.g2],w0.heap.size≤j∧j<w.heap.size)
  (hb:Ab (x.p::(x.vls.ownBlock.toList++x.vlw.ownBlock.toList)) w w') (hL:Cz x.p ((x.cells.set 8 (sl ga (x.lss.length+1) ca)).set 9 (sl gb (x.lss.length+1) cb)) w')
  (hra:w'.ownsRow W0.heap.size 40 1 (sl ga (x.lss.length+1) ca) (x.lss.length+1) ((x.lss.map fun l=>sl l.g1 l.T.length l.T.length)++[sl l.g1 l.T.length l.T.length]))
  (hrb:w'.ownsRow W0.heap.size 40 1 (sl gb (x.lss.length+1) cb) (x.lss.length+1) ((x.lss.map fun l=>sl l.g2 l.T.length l.T.length)++[sl l.g2 l.T.length l.T.length]))
  (hga:x.vls.ownBlock=some ga∨w.heap.size≤ga) (hgb:x.vlw.ownBlock=some gb∨w.heap.size≤gb) (hab:ga≠gb):
  Ao W0 (s+1) {x with vls:=sl ga (x.lss.length+1) ca,vlw:=sl gb (x.lss.length+1) cb,lss:=x.lss++[l],M:=[ga,gb,l.g1,l.g2]++x.M} w':=by
 obtain ⟨h1,h2,h3,h4,h5,h6,h7,h8,h9,h10,h11,⟨s1,s2,s3⟩,h13,h14⟩:=h;have hc:=DK h3;have he:=WG.count x;have hbs:=hbel.size;have h2s:=h2.size
 have hO:∀j∈x.p::(x.vls.ownBlock.toList++x.vlw.ownBlock.toList),j∈x.blocks:=fun j hj=>by
  rcases ja.1 hj with rfl|hj
  ·exact Ak.2 (by have:=he x.p;have:1≤[x.p].count x.p:=Ak.1 (by simp);omega)
  ·have a1:=Ak.1 hj;rw [List.count_append] at a1;exact Ak.2 (by have:=he j;omega)
 have hlt:∀j∈x.blocks,W0.heap.size≤j∧j<w0.heap.size:=fun j hj=>h5 j (h4 j hj)
 have dj:∀j∈x.p::(x.vls.ownBlock.toList++x.vlw.ownBlock.toList),x.vl.ownBlock.toList.count j=0∧x.vh.ownBlock.toList.count j=0∧(x.lss.flatMap (fun l=>[l.g1,l.g2])).count j=0∧(x.prs.flatMap Ah.blocks).count j=0:=fun j hj=>by
  have a1:1≤[x.p].count j+x.vls.ownBlock.toList.count j+x.vlw.ownBlock.toList.count j:=by
   rcases ja.1 hj with rfl|hj
   ·have:1≤[x.p].count x.p:=Ak.1 (by simp);omega
   ·have:=Ak.1 hj;rw [List.count_append] at this;omega
  have a3:=he j;have a4:=hc j;refine ⟨?_,?_,?_,?_⟩<;>omega
 have hgaM:W0.heap.size≤ga∧(ga∈x.M∨w0.heap.size≤ga):=by
  rcases hga with e|e
  ·have hm:=hO ga (by simp [e]);exact ⟨(hlt ga hm).1,Or.inl (h4 ga hm)⟩
  ·exact ⟨by omega,Or.inr (by omega)⟩
 have hgbM:W0.heap.size≤gb∧(gb∈x.M∨w0.heap.size≤gb):=by
  rcases hgb with e|e
  ·have hm:=hO gb (by simp [e]);exact ⟨(hlt gb hm).1,Or.inl (h4 gb hm)⟩
  ·exact ⟨by omega,Or.inr (by omega)⟩
 have bw:Ab (x.p::(x.vls.ownBlock.toList++x.vlw.ownBlock.toList)) w0 w':=(Ab.of_bel hbel).trans hb;have hsz:=hb.size
 have hA:∀j∈[ga,gb,l.g1,l.g2],W0.heap.size≤j∧j<w'.heap.size∧(j∈x.M∨w0.heap.size≤j):=fun j hj=>by
  simp only [ja,List.not_mem_nil,or_false] at hj;rcases hj with rfl|rfl|rfl|rfl
  ·exact ⟨hgaM.1,(World.ownsRow.lt hra _ rfl).2,hgaM.2⟩
  ·exact ⟨hgbM.1,(World.ownsRow.lt hrb _ rfl).2,hgbM.2⟩
  ·have:=hnew l.g1 (by simp);exact ⟨by omega,by omega,Or.inr this.1⟩
  ·have:=hnew l.g2 (by simp);exact ⟨by omega,by omega,Or.inr this.1⟩
 have he':=WG.count {x with vls:=sl ga (x.lss.length+1) ca,vlw:=sl gb (x.lss.length+1) cb,lss:=x.lss++[l],M:=[ga,gb,l.g1,l.g2]++x.M};simp only [show (sl ga (x.lss.length+1) ca).ownBlock=some ga from rfl,show (sl gb (x.lss.length+1) cb).ownBlock=some gb from rfl,Option.toList_some,List.flatMap_append,List.flatMap_cons,List.flatMap_nil,List.append_nil,List.count_append] at he';have hone:∀a b:Nat,[a].count b=if a=b then 1 else 0:=fun a b=>by simp [List.count_cons]
 have htwo:∀b:Nat,[l.g1,l.g2].count b=[l.g1].count b+[l.g2].count b:=fun b=>by rw [←List.count_append];rfl
 have hout:∀a,w0.heap.size≤a→x.blocks.count a=0:=fun a ha=>jZ fun e2=>by
  have:=(hlt a (jb.1 e2)).2;omega
 have hn1:=hnew l.g1 (by simp);have hn2:=hnew l.g2 (by simp);have hg1o:=hout l.g1 hn1.1;have hg2o:=hout l.g2 hn2.1;have ea:∀a,x.vls.ownBlock=some ga→x.vls.ownBlock.toList.count a=[ga].count a:=fun a e=>by rw [e];rfl
 have eb:∀a,x.vlw.ownBlock=some gb→x.vlw.ownBlock.toList.count a=[gb].count a:=fun a e=>by rw [e];rfl
 have lta:x.vls.ownBlock=some ga→ga<w0.heap.size:=fun e=>(hlt ga (hO ga (by simp [e]))).2
 have ltb:x.vlw.ownBlock=some gb→gb<w0.heap.size:=fun e=>(hlt gb (hO gb (by simp [e]))).2
 refine ⟨hL, Ab.belX h2 bw (fun j hj => (hlt j (hO j hj)).1) (fun j hj => h4 j (hO j hj)) (fun j hj => (jT.1 hj).elim (fun e => (hA j e).2.2) Or.inl), ?_, ?_, ?_, h6, AY h7 bw (fun k hk hkN => Cm (by simp [hk]) (dj k hkN).1), AY h8 bw (fun k hk hkN => Cm (by simp [hk]) (dj k hkN).2.1), h9, by simpa using hra, by simpa using hrb,
   ⟨by show x.prs.length ≤ _; omega, by show x.H.length ≤ _; omega, by simp; omega⟩, fun z hz => ?_, fun z hz => ?_⟩
 ·refine List.nodup_iff_count.2 fun a=>?_
  have a1:=he' a;have a2:=he a;have a3:=hc a;refine jX (Nat.le_of_eq a1) ?_;rw [htwo a];by_cases c1:l.g1=a
  ·subst c1;have b1:[l.g2].count l.g1=0:=by rw [hone,if_neg (fun e=>hne e.symm)]
   have b2:[ga].count l.g1=0:=by
    rw [hone,if_neg];intro e;rcases hga with e2|e2
    ·have:=lta e2;omega
    ·omega
   have b3:[gb].count l.g1=0:=by
    rw [hone,if_neg];intro e;rcases hgb with e2|e2
    ·have:=ltb e2;omega
    ·omega
   have b4:[l.g1].count l.g1=1:=by rw [hone,if_pos rfl]
   omega
  ·have b0:[l.g1].count a=0:=by rw [hone,if_neg c1]
   by_cases c2:l.g2=a
   ·subst c2
    have b2:[ga].count l.g2=0:=by
     rw [hone,if_neg];intro e;rcases hga with e2|e2
     ·have:=lta e2;omega
     ·omega
    have b3:[gb].count l.g2=0:=by
     rw [hone,if_neg];intro e;rcases hgb with e2|e2
     ·have:=ltb e2;omega
     ·omega
    have b4:[l.g2].count l.g2=1:=by rw [hone,if_pos rfl]
    omega
   ·have b1:[l.g2].count a=0:=by rw [hone,if_neg c2]
    by_cases c3:ga=a
    ·subst c3;have b3:[gb].count ga=0:=by rw [hone,if_neg (fun e=>hab e.symm)]
     have b4:[ga].count ga=1:=by rw [hone,if_pos rfl]
     rcases hga with e|e
     ·have:=ea ga e;omega
     ·have:=hout ga (by omega);omega
    ·have b4:[ga].count a=0:=by rw [hone,if_neg c3]
     by_cases c4:gb=a
     ·subst c4;have b5:[gb].count gb=1:=by rw [hone,if_pos rfl]
      rcases hgb with e|e
      ·have:=eb gb e;omega
      ·have:=hout gb (by omega);omega
     ·have b5:[gb].count a=0:=by rw [hone,if_neg c4]
      omega
 ·intro j hj;have a0:=Ak.1 hj;have a1:=he' j;have a2:=he j;rw [htwo j] at a1;by_cases hm:j∈[ga,gb,l.g1,l.g2]
  ·exact jg _ hm
  ·simp only [ja,List.not_mem_nil,or_false,not_or] at hm;obtain ⟨m1,m2,m3,m4⟩:=hm;have b1:[ga].count j=0:=by rw [hone,if_neg (Ne.symm m1)]
   have b2:[gb].count j=0:=by rw [hone,if_neg (Ne.symm m2)]
   have b3:[l.g1].count j=0:=by rw [hone,if_neg (Ne.symm m3)]
   have b4:[l.g2].count j=0:=by rw [hone,if_neg (Ne.symm m4)]
   refine jU _ (h4 j (Ak.2 ?_));have a8:=jX a0 (Nat.le_of_eq a1);omega
 ·intro j hj;rcases jT.1 hj with hj|hj
  ·exact ⟨(hA j hj).1,(hA j hj).2.1⟩
  ·have:=h5 j hj;exact ⟨by omega,by omega⟩
 ·rcases jT.1 hz with hz|hz
  ·obtain ⟨l1,l2,l3⟩:=h13 z hz;exact ⟨AY l1 bw (fun k hk hkN=>Cm (jd.2 ⟨z,hz,by simp [sl,Value.ownBlock] at hk;simp [hk]⟩) (dj k hkN).2.2.1),AY l2 bw (fun k hk hkN=>Cm (jd.2 ⟨z,hz,by simp [sl,Value.ownBlock] at hk;simp [hk]⟩) (dj k hkN).2.2.1),l3⟩
  ·rw [jP.1 hz];obtain ⟨l1,l2,l3⟩:=hl;refine ⟨AY l1 hb (fun k hk hkN=>?_),AY l2 hb (fun k hk hkN=>?_),l3⟩
   ·have:l.g1=k:=by simpa [sl,Value.ownBlock] using hk
    have:=(hlt k (hO k hkN)).2;omega
   ·have:l.g2=k:=by simpa [sl,Value.ownBlock] using hk
    have:=(hlt k (hO k hkN)).2;omega
 ·exact ⟨((h14 z hz).1.app (fun j hj=>(hA j hj).2.2)).but bw (fun j hj=>Or.inl (jU _ (h4 j (hO j hj)))) (fun j hj hjN=>Cm (jd.2 ⟨z,hz,hj⟩) (dj j hjN).2.2.2),by have:=(h14 z hz).2.1;omega,(h14 z hz).2.2⟩
theorem Ao.cell {W0:Aw} {s:Nat} {x:WG} {w:World} (h:Ao W0 s x w) (k:Nat) (hk:k<x.lss.length) (i:Nat) (S:ByteArray):
  Ao W0 s {x with lss:=x.lss.set k {x.lss[k] with T:=(x.lss[k]).T.set i S}} ((w.setCell ⟨(x.lss[k]).g1,i,none⟩ (.string S)).setCell ⟨(x.lss[k]).g2,i,none⟩ (.string S)):=by
 obtain ⟨h1,h2,h3,h4,h5,h6,h7,h8,h9,h10,h11,h12,h13,h14⟩:=h;have hc:=DK h3;have he:=WG.count x;have h1k:∀j,[(x.lss[k]).g1,(x.lss[k]).g2].count j≤(x.lss.flatMap (fun l=>[l.g1,l.g2])).count j:=fun j=>FL (fun l:GA=>[l.g1,l.g2]) j _ _ (jJ hk)
 have hN:∀j∈[(x.lss[k]).g1,(x.lss[k]).g2],j∈x.blocks:=fun j hj=>by
  have a1:=Ak.1 hj;have a2:=h1k j;have a3:=he j;exact Ak.2 (by omega)
 have dj:∀j∈[(x.lss[k]).g1,(x.lss[k]).g2],[x.p].count j=0∧x.vl.ownBlock.toList.count j=0∧x.vh.ownBlock.toList.count j=0∧x.vls.ownBlock.toList.count j=0∧x.vlw.ownBlock.toList.count j=0∧(x.prs.flatMap Ah.blocks).count j=0:=fun j hj=>by
  have a1:=Ak.1 hj;have a2:=h1k j;have a3:=he j;have a4:=hc j;refine ⟨?_,?_,?_,?_,?_,?_⟩<;>omega
 have hne:(x.lss[k]).g1≠(x.lss[k]).g2:=fun e=>by
  have a2:=h1k (x.lss[k]).g1;have a3:=he (x.lss[k]).g1;have a4:=hc (x.lss[k]).g1;have:[(x.lss[k]).g1,(x.lss[k]).g2].count (x.lss[k]).g1=2:=by rw [←e];simp
  omega
 have hb:Ab [(x.lss[k]).g1,(x.lss[k]).g2] w ((w.setCell ⟨(x.lss[k]).g1,i,none⟩ (.string S)).setCell ⟨(x.lss[k]).g2,i,none⟩ (.string S)):=((Ab.refl _ w).set (by simp) _).set (by simp) _
 have hm1:((x.lss.set k {x.lss[k] with T:=(x.lss[k]).T.set i S}).map fun l=>sl l.g1 l.T.length l.T.length)=x.lss.map fun l=>sl l.g1 l.T.length l.T.length:=by
  apply List.ext_getElem
  ·simp
  ·intro j i1 i2;simp only [List.getElem_map,List.getElem_set];split
   ·rename_i e;subst e;simp
   ·rfl
 have hm2:((x.lss.set k {x.lss[k] with T:=(x.lss[k]).T.set i S}).map fun l=>sl l.g2 l.T.length l.T.length)=x.lss.map fun l=>sl l.g2 l.T.length l.T.length:=by
  apply List.ext_getElem
  ·simp
  ·intro j i1 i2;simp only [List.getElem_map,List.getElem_set];split
   ·rename_i e;subst e;simp
   ·rfl
 have hfl:(x.lss.set k {x.lss[k] with T:=(x.lss[k]).T.set i S}).flatMap (fun l=>[l.g1,l.g2])=x.lss.flatMap (fun l=>[l.g1,l.g2]):=by
  rw [List.flatMap_def,List.flatMap_def];congr 1;apply List.ext_getElem
  ·simp
  ·intro j i1 i2;simp only [List.getElem_map,List.getElem_set];split
   ·rename_i e;subst e;rfl
   ·rfl
 have hbl:WG.blocks {x with lss:=x.lss.set k {x.lss[k] with T:=(x.lss[k]).T.set i S}}=x.blocks:=by
  unfold WG.blocks;simp only;rw [hfl]
 refine ⟨h1.but hb (fun e => Cm (by simp) (dj _ e).1), Ab.belX h2 hb (fun j hj => (h5 j (h4 j (hN j hj))).1) (fun j hj => h4 j (hN j hj)) (fun j hj => Or.inl hj), by rw [hbl]; exact h3, by rw [hbl]; exact h4, fun j hj => ⟨(h5 j hj).1, jN (h5 j hj).2 hb.size⟩, h6, AY h7 hb (fun g hg hgN => Cm (by simp [hg]) (dj g hgN).2.1), AY h8 hb (fun g hg hgN => Cm (by simp [hg]) (dj g hgN).2.2.1), h9,
   ?_, ?_, ⟨h12.1, h12.2.1, by simpa using h12.2.2⟩, fun z hz => ?_, fun z hz => ⟨(h14 z hz).1.but hb (fun j hj => Or.inl (h4 j (hN j hj))) (fun j hj hjN => Cm (jd.2 ⟨z, hz, hj⟩) (dj j hjN).2.2.2.2.2), (h14 z hz).2⟩⟩
 ·show World.ownsRow _ _ _ _ _ (x.lss.set k _).length ((x.lss.set k _).map _);rw [hm1,List.length_set];exact AY h10 hb (fun g hg hgN=>Cm (by simp [hg]) (dj g hgN).2.2.2.1)
 ·show World.ownsRow _ _ _ _ _ (x.lss.set k _).length ((x.lss.set k _).map _);rw [hm2,List.length_set];exact AY h11 hb (fun g hg hgN=>Cm (by simp [hg]) (dj g hgN).2.2.2.2.1)
 ·obtain ⟨j,hj,rfl⟩:=List.mem_iff_getElem.1 hz;have hj':j<x.lss.length:=by simpa using hj
  by_cases hjk:k=j
  ·subst hjk;simp only [List.getElem_set_self];obtain ⟨l1,l2,l3⟩:=h13 _ (jJ hj');refine ⟨?_,?_,by simpa using l3⟩
   ·have q1:=(World.ownsRow.stored l1 i (.string S)).1
    have q2 := AY q1 ((Ab.refl [(x.lss[k]).g2] _).set (p := ⟨(x.lss[k]).g2, i, none⟩) (by simp) (.string S)) (fun g hg hm => hne (by
      have : (x.lss[k]).g1 = g := by simpa [Value.ownBlock] using hg
      rw [this, jP.1 hm]))
    simpa [List.map_set,sl] using q2
   ·have q1 := AY l2 ((Ab.refl [(x.lss[k]).g1] w).set (p := ⟨(x.lss[k]).g1, i, none⟩) (by simp) (.string S)) (fun g hg hm => hne (by
      have : (x.lss[k]).g2 = g := by simpa [sl, Value.ownBlock] using hg
      rw [this, jP.1 hm]))
    have q2:=(World.ownsRow.stored q1 i (.string S)).1
    simpa [List.map_set,sl] using q2
  ·simp only [List.getElem_set_ne hjk];obtain ⟨l1,l2,l3⟩:=h13 _ (jJ hj')
   have hd:∀g∈[(x.lss[j]).g1,(x.lss[j]).g2],g∉[(x.lss[k]).g1,(x.lss[k]).g2]:=fun g hg hgN=>by
    have b1:=MJ (fun l:GA=>[l.g1,l.g2]) g x.lss j k hj' hk (Ne.symm hjk);have b2:=Ak.1 hg;have b3:=Ak.1 hgN;have b4:=he g;have b5:=hc g;omega
   exact ⟨AY l1 hb (fun g hg=>hd g (by simp [sl,Value.ownBlock] at hg;simp [hg])),AY l2 hb (fun g hg=>hd g (by simp [sl,Value.ownBlock] at hg;simp [hg])),l3⟩
end Go.Proofs.YtpapdkhjdelfcabGreat
