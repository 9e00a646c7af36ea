import Derived.Test.YtpapdkhjdelfcaaGreatMBO
namespace Go.Proofs.YtpapdkhjdelfcaaGreat
open Go.RowKit
set_option maxRecDepth 100000
set_option maxHeartbeats 4000000
theorem Ao.pair {G:Aw} {s:Nat} {x:WG} {I w v:jj} {g cap:Nat} (h:Ao G s x I) (n:Aa I w) (y:Ah) (hy:y.At G.heap.size (y.blocks++x.M) w) (S:y.blocks.Nodup) (c:∀j∈y.blocks,I.heap.size<=j/\j<w.heap.size) (T:y.g<=s/\y.even)
  (hb:Ab x.vl.ownBlock.toList w v) (r:v.ownsRow G.heap.size 59 1 (sl g (x.prs.length+1) cap) (x.prs.length+1) ((x.prs.map fun y=>Value.pointer (some ⟨y.a,0,none⟩))++[.pointer (some ⟨y.a,0,none⟩)])) (P:x.vl.ownBlock=some g\/w.heap.size<=g):
  Ao G (s+1) {x with vl:=sl g (x.prs.length+1) cap,prs:=x.prs++[y],M:=g::(y.blocks++x.M)} (v.setCell ⟨x.p,6,none⟩ (sl g (x.prs.length+1) cap)):=by
 obtain ⟨h1,U,h3,J,h5,h6,h7,h8,h9,V,W,⟨s1,s2,s3⟩,X,A⟩:=h;have Y:=DK h3;have K:=WG.count x;have ad:=n.size
 have t:∀j∈x.p::x.vl.ownBlock.toList,j∈x.blocks:=fun j b=>by
  rcases ja.1 b with rfl|b
  .exact Ak.2 (by have:=K x.p;have:1<=[x.p].count x.p:=Ak.1 js;omega)
  .exact Ak.2 (by have:=K j;have:=Ak.1 b;omega)
 have i:∀j∈x.blocks,G.heap.size<=j/\j<I.heap.size:=fun j b=>h5 j (J j b)
 have N:∀j∈x.p::x.vl.ownBlock.toList,x.vh.ownBlock.toList.count j=0/\x.vls.ownBlock.toList.count j=0/\x.vlw.ownBlock.toList.count j=0/\(x.lss.flatMap (fun l=>[l.g1,l.g2])).count j=0/\(x.prs.flatMap Ah.blocks).count j=0:=fun j b=>by
  have O:1<=[x.p].count j+x.vl.ownBlock.toList.count j:=by
   rcases ja.1 b with rfl|b
   .have:1<=[x.p].count x.p:=Ak.1 js;omega
   .have:=Ak.1 b;omega
  have a3:=K j;have a4:=Y j;refine ⟨?_,?_,?_,?_,?_⟩<;>omega
 have Q:x.p∉x.vl.ownBlock.toList:=fun e=>by
  have O:1<=[x.p].count x.p:=Ak.1 js;have a2:=Ak.1 e;have a3:=K x.p;have a4:=Y x.p;omega
 have B:G.heap.size<=g/\(g∈x.M\/I.heap.size<=g):=by
  rcases P with e|e
  .have o:=t g (by simp [e]);exact ⟨(i g o).1,Or.inl (J g o)⟩
  .have:=U.size;exact ⟨jo,Or.inr jo⟩
 have Z:g≠x.p:=by
  rcases P with e|e
  .exact fun f=>Q (by simp [e,f])
  .have:=(i x.p (t x.p js)).2;omega
 have C:Ab (x.p::x.vl.ownBlock.toList) w (v.setCell ⟨x.p,6,none⟩ (sl g (x.prs.length+1) cap)):=(hb.mono (fun k m=>Or.inl (jW _ m))).put (Or.inl js) _;have D:Ab (x.p::x.vl.ownBlock.toList) I (v.setCell ⟨x.p,6,none⟩ (sl g (x.prs.length+1) cap)):=(Ab.of_bel n).trans C
 have aa:∀j∈y.blocks,x.blocks.count j=0:=fun j b=>jZ fun f=>by
  have:=(i j (jb.1 f)).2;have:=(c j b).1;omega
 have ab:y.blocks.count g=0:=jZ fun f=>by
  have O:=c g (jb.1 f);rcases P with e|e
  .have:=(i g (t g (by simp [e]))).2;omega
  .omega
 have E:=WG.count {x with vl:=sl g (x.prs.length+1) cap,prs:=x.prs++[y],M:=g::(y.blocks++x.M)};simp only [show (sl g (x.prs.length+1) cap).ownBlock=some g from rfl,Option.toList_some,List.flatMap_append,List.flatMap_cons,List.flatMap_nil,List.append_nil,List.count_append] at E;have ae:=C.size
 have ac:g<(v.setCell ⟨x.p,6,none⟩ (sl g (x.prs.length+1) cap)).heap.size:=by
  have:=(World.ownsRow.lt r g rfl).2;simpa [World.setCell] using this
 have hM:∀j∈x.p::x.vl.ownBlock.toList,j∈g::(y.blocks++x.M):=fun j b=>jW _ (jU _ (J j (t j b)))
 refine ⟨((h1.later n).but hb Q).set 6 _, Ab.belX U D (fun j b => (i j (t j b)).1) (fun j b => J j (t j b)) (fun j b => by
   rcases ja.1 b with rfl | b
   . exact B.2
   . rcases jT.1 b with b | b
     . exact Or.inr (c j b).1
     . exact Or.inl b), ?_, ?_, ?_, h6, ?_, AY h8 D (fun k m d => Cm (by simp [m]) (N k d).1), h9, AY V D (fun k m d => Cm (by simp [m]) (N k d).2.1),
   AY W D (fun k m d => Cm (by simp [m]) (N k d).2.2.1), ⟨by simp; omega, by show x.H.length <= _; omega, by show x.lss.length <= _; omega⟩, fun l hl => ?_, fun z u => ?_⟩
 .refine List.nodup_iff_count.2 fun a=>?_
  have O:=E a;have a2:=K a;have a3:=Y a;have a4:=DK S a;refine jX (Nat.le_of_eq O) ?_;by_cases o:a∈y.blocks
  .have a5:=aa a o
   have R:[g].count a=0:=jZ fun f=>by
    have:=jP.1 (jb.1 f);subst this;exact Cm o ab
   omega
  .have a5:y.blocks.count a=0:=jZ fun f=>o (jb.1 f)
   rcases P with e|e
   .have R:x.vl.ownBlock.toList.count a=[g].count a:=by rw [e];rfl
    omega
   .by_cases q:a=g
    .subst q
     have R:x.blocks.count a=0:=jZ fun f=>by
      have:=(i a (jb.1 f)).2;omega
     have a7:[a].count a<=1:=DK js a;omega
    .have R:[g].count a=0:=jZ fun f=>q (jP.1 (jb.1 f))
     omega
 .intro j b;have a0:=Ak.1 b;have O:=E j;have a2:=K j;by_cases o:j∈y.blocks
  .exact jW _ (jg _ o)
  .by_cases q:j=g
   .rw [q];exact List.mem_cons_self
   .have R:[g].count j=0:=jZ fun f=>q (jP.1 (jb.1 f))
    have a5:y.blocks.count j=0:=jZ fun f=>o (jb.1 f)
    have a7:1<=List.count j (WG.blocks {x with vl:=sl g (x.prs.length+1) cap,prs:=x.prs++[y],M:=g::(y.blocks++x.M)}):=a0;refine jW _ (jU _ (J j (Ak.2 ?_)));have a8:=jX a7 (Nat.le_of_eq O);omega
 .intro j b;rcases ja.1 b with rfl|b
  .exact ⟨B.1,ac⟩
  .rcases jT.1 b with b|b
   .have:=c j b;have:=U.size;exact ⟨jo,jo⟩
   .have:=h5 j b;exact ⟨jo,jo⟩
 .have := AY r ((Ab.refl [x.p] v).set (p := ⟨x.p, 6, none⟩) js (sl g (x.prs.length + 1) cap)) (fun k m o => by
    simp [sl, Value.ownBlock] at m o
    exact Z jo)
  simpa using this
 .obtain ⟨l1,l2,l3⟩:=X l hl;exact ⟨AY l1 D (fun k m d=>Cm (jd.2 ⟨l,hl,by simp [sl,Value.ownBlock] at m;simp [m]⟩) (N k d).2.2.2.1),AY l2 D (fun k m d=>Cm (jd.2 ⟨l,hl,by simp [sl,Value.ownBlock] at m;simp [m]⟩) (N k d).2.2.2.1),l3⟩
 .rcases jT.1 u with u|u
  .refine ⟨((A z u).1.app (L:=g::y.blocks) (fun j b=>?_)).but D (fun j b=>Or.inl (hM j b)) (fun j b F=>Cm (jd.2 ⟨z,u,b⟩) (N j F).2.2.2.2),by have:=(A z u).2.1;omega,(A z u).2.2⟩;rcases ja.1 b with rfl|b
   .exact B.2
   .exact Or.inr (c j b).1
  .rw [jP.1 u];refine ⟨(hy.cons (j:=g) ?_).but C (fun j b=>Or.inl (hM j b)) (fun j b F=>?_),jo,T.2⟩
   .rcases P with e|e
    .exact Or.inl (jU _ (J g (t g (by simp [e]))))
    .exact Or.inr e
   .have:=(i j (t j F)).2;have:=(c j b).1;omega
theorem Ao.keep {v:Aw} {s:Nat} {x:WG} {u w w':jj} {d O f P:Nat} (h:Ao v s x u) (D:Aa u w) (l:GA) (hl:l.At v.heap.size w) (aa:l.g1≠l.g2) (n:∀j∈[l.g1,l.g2],u.heap.size<=j/\j<w.heap.size)
  (X:Ab (x.p::(x.vls.ownBlock.toList++x.vlw.ownBlock.toList)) w w') (hL:Cz x.p ((x.cells.set 8 (sl d (x.lss.length+1) O)).set 9 (sl f (x.lss.length+1) P)) w')
  (Q:w'.ownsRow v.heap.size 36 1 (sl d (x.lss.length+1) O) (x.lss.length+1) ((x.lss.map fun l=>sl l.g1 l.T.length l.T.length)++[sl l.g1 l.T.length l.T.length]))
  (R:w'.ownsRow v.heap.size 36 1 (sl f (x.lss.length+1) P) (x.lss.length+1) ((x.lss.map fun l=>sl l.g2 l.T.length l.T.length)++[sl l.g2 l.T.length l.T.length]))
  (y:x.vls.ownBlock=some d\/w.heap.size<=d) (A:x.vlw.ownBlock=some f\/w.heap.size<=f) (ab:d≠f):
  Ao v (s+1) {x with vls:=sl d (x.lss.length+1) O,vlw:=sl f (x.lss.length+1) P,lss:=x.lss++[l],M:=[d,f,l.g1,l.g2]++x.M} w':=by
 obtain ⟨h1,h2,h3,L,h5,h6,h7,h8,h9,ai,aj,⟨s1,s2,s3⟩,ac,I⟩:=h;have hc:=DK h3;have S:=WG.count x;have ak:=D.size;have al:=h2.size
 have B:∀j∈x.p::(x.vls.ownBlock.toList++x.vlw.ownBlock.toList),j∈x.blocks:=fun j g=>by
  rcases ja.1 g with rfl|g
  .exact Ak.2 (by have:=S x.p;have:1<=[x.p].count x.p:=Ak.1 js;omega)
  .have J:=Ak.1 g;rw [List.count_append] at J;exact Ak.2 (by have:=S j;omega)
 have m:∀j∈x.blocks,v.heap.size<=j/\j<u.heap.size:=fun j g=>h5 j (L j g)
 have U:∀j∈x.p::(x.vls.ownBlock.toList++x.vlw.ownBlock.toList),x.vl.ownBlock.toList.count j=0/\x.vh.ownBlock.toList.count j=0/\(x.lss.flatMap (fun l=>[l.g1,l.g2])).count j=0/\(x.prs.flatMap Ah.blocks).count j=0:=fun j g=>by
  have J:1<=[x.p].count j+x.vls.ownBlock.toList.count j+x.vlw.ownBlock.toList.count j:=by
   rcases ja.1 g with rfl|g
   .have:1<=[x.p].count x.p:=Ak.1 js;omega
   .have:=Ak.1 g;rw [List.count_append] at this;omega
  have a3:=S j;have a4:=hc j;refine ⟨?_,?_,?_,?_⟩<;>omega
 have E:v.heap.size<=d/\(d∈x.M\/u.heap.size<=d):=by
  rcases y with e|e
  .have C:=B d (by simp [e]);exact ⟨(m d C).1,Or.inl (L d C)⟩
  .exact ⟨jo,Or.inr jo⟩
 have F:v.heap.size<=f/\(f∈x.M\/u.heap.size<=f):=by
  rcases A with e|e
  .have C:=B f (by simp [e]);exact ⟨(m f C).1,Or.inl (L f C)⟩
  .exact ⟨jo,Or.inr jo⟩
 have N:Ab (x.p::(x.vls.ownBlock.toList++x.vlw.ownBlock.toList)) u w':=(Ab.of_bel D).trans X;have am:=X.size
 have Y:∀j∈[d,f,l.g1,l.g2],v.heap.size<=j/\j<w'.heap.size/\(j∈x.M\/u.heap.size<=j):=fun j g=>by
  simp only [ja,List.not_mem_nil,or_false] at g;rcases g with rfl|rfl|rfl|rfl
  .exact ⟨E.1,(World.ownsRow.lt Q _ rfl).2,E.2⟩
  .exact ⟨F.1,(World.ownsRow.lt R _ rfl).2,F.2⟩
  .have:=n l.g1 js;exact ⟨jo,jo,Or.inr this.1⟩
  .have:=n l.g2 js;exact ⟨jo,jo,Or.inr this.1⟩
 have K:=WG.count {x with vls:=sl d (x.lss.length+1) O,vlw:=sl f (x.lss.length+1) P,lss:=x.lss++[l],M:=[d,f,l.g1,l.g2]++x.M};simp only [show (sl d (x.lss.length+1) O).ownBlock=some d from rfl,show (sl f (x.lss.length+1) P).ownBlock=some f from rfl,Option.toList_some,List.flatMap_append,List.flatMap_cons,List.flatMap_nil,List.append_nil,List.count_append] at K;have c:∀a b:Nat,[a].count b=if a=b then 1 else 0:=fun a b=>by simp [List.count_cons]
 have G:∀b:Nat,[l.g1,l.g2].count b=[l.g1].count b+[l.g2].count b:=fun b=>by rw [<-List.count_append];rfl
 have o:∀a,u.heap.size<=a->x.blocks.count a=0:=fun a ha=>jZ fun q=>by
  have:=(m a (jb.1 q)).2;omega
 have ad:=n l.g1 js;have ae:=n l.g2 js;have ag:=o l.g1 ad.1;have ah:=o l.g2 ae.1;have ea:∀a,x.vls.ownBlock=some d->x.vls.ownBlock.toList.count a=[d].count a:=fun a e=>by rw [e];rfl
 have eb:∀a,x.vlw.ownBlock=some f->x.vlw.ownBlock.toList.count a=[f].count a:=fun a e=>by rw [e];rfl
 have V:x.vls.ownBlock=some d->d<u.heap.size:=fun e=>(m d (B d (by simp [e]))).2
 have W:x.vlw.ownBlock=some f->f<u.heap.size:=fun e=>(m f (B f (by simp [e]))).2
 refine ⟨hL, Ab.belX h2 N (fun j g => (m j (B j g)).1) (fun j g => L j (B j g)) (fun j g => (jT.1 g).elim (fun e => (Y j e).2.2) Or.inl), ?_, ?_, ?_, h6, AY h7 N (fun k r i => Cm (by simp [r]) (U k i).1), AY h8 N (fun k r i => Cm (by simp [r]) (U k i).2.1), h9, by simpa using Q, by simpa using R,
   ⟨by show x.prs.length <= _; omega, by show x.H.length <= _; omega, by simp; omega⟩, fun z t => ?_, fun z t => ?_⟩
 .refine List.nodup_iff_count.2 fun a=>?_
  have J:=K a;have a2:=S a;have a3:=hc a;refine jX (Nat.le_of_eq J) ?_;rw [G a];by_cases c1:l.g1=a
  .subst c1;have b1:[l.g2].count l.g1=0:=by rw [c,if_neg (fun e=>aa e.symm)]
   have b2:[d].count l.g1=0:=by
    rw [c,if_neg];intro e;rcases y with q|q
    .have:=V q;omega
    .omega
   have b3:[f].count l.g1=0:=by
    rw [c,if_neg];intro e;rcases A with q|q
    .have:=W q;omega
    .omega
   have Z:[l.g1].count l.g1=1:=by rw [c,if_pos rfl]
   omega
  .have b0:[l.g1].count a=0:=by rw [c,if_neg c1]
   by_cases c2:l.g2=a
   .subst c2
    have b2:[d].count l.g2=0:=by
     rw [c,if_neg];intro e;rcases y with q|q
     .have:=V q;omega
     .omega
    have b3:[f].count l.g2=0:=by
     rw [c,if_neg];intro e;rcases A with q|q
     .have:=W q;omega
     .omega
    have Z:[l.g2].count l.g2=1:=by rw [c,if_pos rfl]
    omega
   .have b1:[l.g2].count a=0:=by rw [c,if_neg c2]
    by_cases c3:d=a
    .subst c3;have b3:[f].count d=0:=by rw [c,if_neg (fun e=>ab e.symm)]
     have Z:[d].count d=1:=by rw [c,if_pos rfl]
     rcases y with e|e
     .have:=ea d e;omega
     .have:=o d jo;omega
    .have Z:[d].count a=0:=by rw [c,if_neg c3]
     by_cases c4:f=a
     .subst c4;have b5:[f].count f=1:=by rw [c,if_pos rfl]
      rcases A with e|e
      .have:=eb f e;omega
      .have:=o f jo;omega
     .have b5:[f].count a=0:=by rw [c,if_neg c4]
      omega
 .intro j g;have a0:=Ak.1 g;have J:=K j;have a2:=S j;rw [G j] at J;by_cases C:j∈[d,f,l.g1,l.g2]
  .exact jg _ C
  .simp only [ja,List.not_mem_nil,or_false,not_or] at C;obtain ⟨m1,m2,m3,m4⟩:=C;have b1:[d].count j=0:=by rw [c,if_neg (Ne.symm m1)]
   have b2:[f].count j=0:=by rw [c,if_neg (Ne.symm m2)]
   have b3:[l.g1].count j=0:=by rw [c,if_neg (Ne.symm m3)]
   have Z:[l.g2].count j=0:=by rw [c,if_neg (Ne.symm m4)]
   refine jU _ (L j (Ak.2 ?_));have a8:=jX a0 (Nat.le_of_eq J);omega
 .intro j g;rcases jT.1 g with g|g
  .exact ⟨(Y j g).1,(Y j g).2.1⟩
  .have:=h5 j g;exact ⟨jo,jo⟩
 .rcases jT.1 t with t|t
  .obtain ⟨l1,l2,l3⟩:=ac z t;exact ⟨AY l1 N (fun k r i=>Cm (jd.2 ⟨z,t,by simp [sl,Value.ownBlock] at r;simp [r]⟩) (U k i).2.2.1),AY l2 N (fun k r i=>Cm (jd.2 ⟨z,t,by simp [sl,Value.ownBlock] at r;simp [r]⟩) (U k i).2.2.1),l3⟩
  .rw [jP.1 t];obtain ⟨l1,l2,l3⟩:=hl;refine ⟨AY l1 X (fun k r i=>?_),AY l2 X (fun k r i=>?_),l3⟩
   .have:l.g1=k:=by simpa [sl,Value.ownBlock] using r
    have:=(m k (B k i)).2;omega
   .have:l.g2=k:=by simpa [sl,Value.ownBlock] using r
    have:=(m k (B k i)).2;omega
 .exact ⟨((I z t).1.app (fun j g=>(Y j g).2.2)).but N (fun j g=>Or.inl (jU _ (L j (B j g)))) (fun j g af=>Cm (jd.2 ⟨z,t,g⟩) (U j af).2.2.2),by have:=(I z t).2.1;omega,(I z t).2.2⟩
theorem Ao.cell {R:Aw} {s:Nat} {x:WG} {w:jj} (h:Ao R s x w) (k:Nat) (U:k<x.lss.length) (i:Nat) (S:jt):
  Ao R s {x with lss:=x.lss.set k {x.lss[k] with T:=(x.lss[k]).T.set i S}} ((w.setCell ⟨(x.lss[k]).g1,i,none⟩ (.string S)).setCell ⟨(x.lss[k]).g2,i,none⟩ (.string S)):=by
 obtain ⟨h1,h2,V,A,C,h6,h7,h8,h9,D,E,f,r,t⟩:=h;have F:=DK V;have B:=WG.count x;have m:∀j,[(x.lss[k]).g1,(x.lss[k]).g2].count j<=(x.lss.flatMap (fun l=>[l.g1,l.g2])).count j:=fun j=>FL (fun l:GA=>[l.g1,l.g2]) j _ _ (jJ U)
 have G:∀j∈[(x.lss[k]).g1,(x.lss[k]).g2],j∈x.blocks:=fun j c=>by
  have a1:=Ak.1 c;have W:=m j;have X:=B j;exact Ak.2 jo
 have q:∀j∈[(x.lss[k]).g1,(x.lss[k]).g2],[x.p].count j=0/\x.vl.ownBlock.toList.count j=0/\x.vh.ownBlock.toList.count j=0/\x.vls.ownBlock.toList.count j=0/\x.vlw.ownBlock.toList.count j=0/\(x.prs.flatMap Ah.blocks).count j=0:=fun j c=>by
  have a1:=Ak.1 c;have W:=m j;have X:=B j;have a4:=F j;refine ⟨?_,?_,?_,?_,?_,?_⟩<;>omega
 have u:(x.lss[k]).g1≠(x.lss[k]).g2:=fun e=>by
  have W:=m (x.lss[k]).g1;have X:=B (x.lss[k]).g1;have a4:=F (x.lss[k]).g1;have:[(x.lss[k]).g1,(x.lss[k]).g2].count (x.lss[k]).g1=2:=by rw [<-e];simp
  omega
 have d:Ab [(x.lss[k]).g1,(x.lss[k]).g2] w ((w.setCell ⟨(x.lss[k]).g1,i,none⟩ (.string S)).setCell ⟨(x.lss[k]).g2,i,none⟩ (.string S)):=((Ab.refl _ w).set js _).set js _
 have H:((x.lss.set k {x.lss[k] with T:=(x.lss[k]).T.set i S}).map fun l=>sl l.g1 l.T.length l.T.length)=x.lss.map fun l=>sl l.g1 l.T.length l.T.length:=by
  apply List.ext_getElem
  .simp
  .intro j Y Z;simp only [List.getElem_map,List.getElem_set];split
   .rename_i e;subst e;simp
   .rfl
 have I:((x.lss.set k {x.lss[k] with T:=(x.lss[k]).T.set i S}).map fun l=>sl l.g2 l.T.length l.T.length)=x.lss.map fun l=>sl l.g2 l.T.length l.T.length:=by
  apply List.ext_getElem
  .simp
  .intro j Y Z;simp only [List.getElem_map,List.getElem_set];split
   .rename_i e;subst e;simp
   .rfl
 have J:(x.lss.set k {x.lss[k] with T:=(x.lss[k]).T.set i S}).flatMap (fun l=>[l.g1,l.g2])=x.lss.flatMap (fun l=>[l.g1,l.g2]):=by
  rw [List.flatMap_def,List.flatMap_def];congr 1;apply List.ext_getElem
  .simp
  .intro j Y Z;simp only [List.getElem_map,List.getElem_set];split
   .rename_i e;subst e;rfl
   .rfl
 have v:WG.blocks {x with lss:=x.lss.set k {x.lss[k] with T:=(x.lss[k]).T.set i S}}=x.blocks:=by
  unfold WG.blocks;simp only;rw [J]
 refine ⟨h1.but d (fun e => Cm js (q _ e).1), Ab.belX h2 d (fun j c => (C j (A j (G j c))).1) (fun j c => A j (G j c)) (fun j c => Or.inl c), by rw [v]; exact V, by rw [v]; exact A, fun j c => ⟨(C j c).1, jN (C j c).2 d.size⟩, h6, AY h7 d (fun g a b => Cm (by simp [a]) (q g b).2.1), AY h8 d (fun g a b => Cm (by simp [a]) (q g b).2.2.1), h9,
   ?_, ?_, ⟨f.1, f.2.1, by simpa using f.2.2⟩, fun z y => ?_, fun z y => ⟨(t z y).1.but d (fun j c => Or.inl (A j (G j c))) (fun j c K => Cm (jd.2 ⟨z, y, c⟩) (q j K).2.2.2.2.2), (t z y).2⟩⟩
 .show World.ownsRow _ _ _ _ _ (x.lss.set k _).length ((x.lss.set k _).map _);rw [H,List.length_set];exact AY D d (fun g a b=>Cm (by simp [a]) (q g b).2.2.2.1)
 .show World.ownsRow _ _ _ _ _ (x.lss.set k _).length ((x.lss.set k _).map _);rw [I,List.length_set];exact AY E d (fun g a b=>Cm (by simp [a]) (q g b).2.2.2.2.1)
 .obtain ⟨j,c,rfl⟩:=List.mem_iff_getElem.1 y;have n:j<x.lss.length:=by simpa using c
  by_cases o:k=j
  .subst o;simp only [List.getElem_set_self];obtain ⟨L,M,N⟩:=r _ (jJ n);refine ⟨?_,?_,by simpa using N⟩
   .have O:=(World.ownsRow.stored L i (.string S)).1
    have P := AY O ((Ab.refl [(x.lss[k]).g2] _).set (p := ⟨(x.lss[k]).g2, i, none⟩) js (.string S)) (fun g a Q => u (by
      have : (x.lss[k]).g1 = g := by simpa [Value.ownBlock] using a
      rw [this, jP.1 Q]))
    simpa [List.map_set,sl] using P
   .have O := AY M ((Ab.refl [(x.lss[k]).g1] w).set (p := ⟨(x.lss[k]).g1, i, none⟩) js (.string S)) (fun g a Q => u (by
      have : (x.lss[k]).g2 = g := by simpa [sl, Value.ownBlock] using a
      rw [this, jP.1 Q]))
    have P:=(World.ownsRow.stored O i (.string S)).1
    simpa [List.map_set,sl] using P
  .simp only [List.getElem_set_ne o];obtain ⟨L,M,N⟩:=r _ (jJ n)
   have hd:∀g∈[(x.lss[j]).g1,(x.lss[j]).g2],g∉[(x.lss[k]).g1,(x.lss[k]).g2]:=fun g a b=>by
    have b1:=MJ (fun l:GA=>[l.g1,l.g2]) g x.lss j k n U (Ne.symm o);have b2:=Ak.1 a;have b3:=Ak.1 b;have b4:=B g;have b5:=F g;omega
   exact ⟨AY L d (fun g a=>hd g (by simp [sl,Value.ownBlock] at a;simp [a])),AY M d (fun g a=>hd g (by simp [sl,Value.ownBlock] at a;simp [a])),N⟩
end Go.Proofs.YtpapdkhjdelfcaaGreat
