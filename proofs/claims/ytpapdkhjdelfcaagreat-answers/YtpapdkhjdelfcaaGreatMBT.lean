import Derived.Test.YtpapdkhjdelfcaaGreatMBS
namespace Go.Proofs.YtpapdkhjdelfcaaGreat
open Go.RowKit
set_option maxRecDepth 100000
set_option maxHeartbeats 4000000
theorem EJ {L:jr} {j n:Nat} (h:∀k∈L,k<n) (a:n<=j):L.count j=0:=jZ fun e=>by
 have:=h j (jb.1 e);omega
theorem F9 {a j:Nat} (h:a≠j):[a].count j=0:=jZ fun e=>h (jP.1 (jb.1 e)).symm
theorem MP (a j:Nat):[a].count j<=1:=DK js j
theorem AM.lt {base:Nat} {M:jr} {y:Ah} {w:jj} (h:AM base M y w):(∀k∈y.vp.ownBlock.toList,k<w.heap.size)/\(∀k∈y.ps.flatMap Au.blocks,k<w.heap.size)/\(∀k∈y.L,k<w.heap.size)/\∀k∈Bh y.pp,k<w.heap.size:=
 ⟨fun k a=>h.2.1 k (h.2.2.1 k (Ak.2 (by rw [Ah.count];have:=Ak.1 a;omega))),fun k a=>h.2.1 k (h.2.2.1 k (Ak.2 (by rw [Ah.count];have:=Ak.1 a;omega))),fun k a=>h.2.1 k (h.2.2.1 k (Ak.2 (by rw [Ah.count];have:=Ak.1 a;omega))),fun k a=>h.2.1 k (h.2.2.1 k (Ak.2 (by rw [Ah.count];have:=Ak.1 a;omega)))⟩
def Au.fresh (p:Nat) (f:Int):Au:=⟨p,f,.pointer none,0,0,.slice none 0 0,[],false,none⟩
theorem Au.fresh_at {M:jr} {w:jj} {p:Nat} {f:Int} (h:BX w p f (.pointer none) 0 0 (.slice none 0 0) false) (a:0<=f/\f<=3):(Au.fresh p f).At M w:=
 ⟨h,a,(show Aj 0 from ⟨ji,ji⟩),(show Aj 0 from ⟨ji,ji⟩),Or.inl ⟨rfl,rfl⟩,(show 0<=65535 by decide),Or.inl ⟨rfl,rfl⟩,fun g b=>by cases b⟩
theorem BX.but {N:jr} {w w':jj} {p:Nat} {a:Int} {d:ju} {f b:Int} {g:ju} {i:Bool} (h:BX w p a d f b g i) (k:Ab N w w') (c:p∉N):BX w' p a d f b g i:=by
 obtain ⟨⟨l,m,n,o,q,r⟩,s⟩:=h;refine ⟨⟨k.cell l c,k.cell m c,k.cell n c,k.cell o c,k.cell q c,k.cell r c⟩,fun j=>?_⟩;rw [World.frozen?_of_block (w:=w) (k.block p (jF l) c)];exact s j
theorem AM.join {base:Nat} {M:jr} {y:Ah} {w q d:jj} {pz g cap:Nat} {f:Int} (h:AM base M y w) (s:Aa w q) (t:w.heap.size<=pz) (S:pz<q.heap.size) (C:BX q pz f (.pointer none) 0 0 (.slice none 0 0) false) (T:0<=f/\f<=3) (B:Ab y.vp.ownBlock.toList q d)
  (i:d.ownsRow base 101 1 (sl g (y.ps.length+1) cap) (y.ps.length+1) ((y.ps.map fun z=>Value.pointer (some ⟨z.p,0,none⟩))++[.pointer (some ⟨pz,0,none⟩)])) (D:y.vp.ownBlock=some g\/q.heap.size<=g) (L:y.ps.length<4):
  B9 base M y w (d.setCell ⟨y.a,9,none⟩ (sl g (y.ps.length+1) cap)) {y with vp:=sl g (y.ps.length+1) cap,ps:=y.ps++[Au.fresh pz f]}:=by
 have l:=h.le;obtain ⟨m1,m2,m3,m4⟩:=h.mem;obtain ⟨u,m,U,V⟩:=h.lt;have W:=s.size;have X:=B.size
 have v:∀k∈y.vp.ownBlock.toList,k≠y.a:=fun k n e=>by
  subst e;have N:=Ak.1 n;have Y:=l y.a;have Z:=GS y.a;omega
 have E:g≠y.a:=by
  rcases D with e|e
  .exact v g (by simp [e])
  .omega
 have x:g<d.heap.size:=(World.ownsRow.lt i g rfl).2;have A:(d.setCell ⟨y.a,9,none⟩ (sl g (y.ps.length+1) cap)).heap.size=d.heap.size:=by simp [World.setCell]
 have O:Ab (y.a::y.vp.ownBlock.toList) w (d.setCell ⟨y.a,9,none⟩ (sl g (y.ps.length+1) cap)):=(((Ab.of_bel s).trans B).mono (fun k n=>Or.inl (jW _ n))).put (Or.inl js) _;have F:Ab (y.a::y.vp.ownBlock.toList) q (d.setCell ⟨y.a,9,none⟩ (sl g (y.ps.length+1) cap)):=(B.mono (fun k n=>Or.inl (jW _ n))).put (Or.inl js) _
 have G:pz∉y.a::y.vp.ownBlock.toList:=fun e=>by
  rcases ja.1 e with e|e
  .omega
  .have:=u pz e;omega
 have H:g≠pz:=by
  rcases D with e|e
  .have:=u g (by simp [e]);omega
  .omega
 have I:∀j∈y.a::y.vp.ownBlock.toList,1<=[y.a].count j+y.vp.ownBlock.toList.count j:=fun j c=>by
  rcases ja.1 c with rfl|c
  .have:=GS y.a;omega
  .have:=Ak.1 c;omega
 have o:∀j,((y.ps++[Au.fresh pz f]).flatMap Au.blocks).count j=(y.ps.flatMap Au.blocks).count j+[pz].count j:=fun j=>by
  simp [List.count_append,Au.blocks,Au.fresh,Value.ownBlock]
 have J:(sl g (y.ps.length+1) cap).ownBlock.toList=[g]:=rfl
 have b:∀j,[g].count j+((y.ps.flatMap Au.blocks).count j+[pz].count j)<=1/\(1<=[g].count j+((y.ps.flatMap Au.blocks).count j+[pz].count j)->(1<=y.vp.ownBlock.toList.count j+(y.ps.flatMap Au.blocks).count j\/w.heap.size<=j)/\j<d.heap.size):=fun j=>by
  have N:=l j;by_cases P:pz=j
  .subst P;have s:=EJ m t;have b2:=F9 H;have b3:=MP pz pz;exact ⟨jo,fun _=>⟨Or.inr t,jo⟩⟩
  .have s:=F9 P;by_cases Q:g=j
   .subst Q;have b3:=MP g g;rcases D with e|e
    .have b4:1<=y.vp.ownBlock.toList.count g:=Ak.1 (by simp [e]);exact ⟨jo,fun _=>⟨Or.inl jo,x⟩⟩
    .have b4:=EJ m (show w.heap.size<=g by omega);exact ⟨jo,fun _=>⟨Or.inr jo,x⟩⟩
   .have b2:=F9 Q;refine ⟨jo,fun e=>⟨Or.inl jo,?_⟩⟩;have:j∈y.ps.flatMap Au.blocks:=Ak.2 jo;have:=m j this;omega
 refine h.pl (y.a::y.vp.ownBlock.toList) O (fun j c=>by have:=I j c;omega) (sl g (y.ps.length+1) cap) (y.ps++[Au.fresh pz f]) ?_ ?_ jx (fun j=>?_) (fun j c=>?_) (fun z r=>?_)
 .exact ((h.1.1.later s).but B (fun e=>v y.a e rfl)).set 9 _
 .have := AY i ((Ab.refl [y.a] d).set (p := ⟨y.a, 9, none⟩) js (sl g (y.ps.length + 1) cap)) (fun k n hm => by
    have : g = k := by simpa [sl, Value.ownBlock] using n
    exact E (by rw [this, jP.1 hm]))
  simpa [Au.fresh] using this
 .rw [J,o];exact (b j).1
 .rw [J,o] at c;rw [A];exact (b j).2 c
 .rcases jT.1 r with r|r
  .refine h.others _ O (fun j c=>Ak.2 (by rw [Ah.count];have:=I j c;omega)) _ (fun j c=>?_) z r (fun j c K=>?_)
   .have R:=Ak.1 c;rw [Ah.count] at R;simp only [J,o] at R;by_cases e:1<=[g].count j+((y.ps.flatMap Au.blocks).count j+[pz].count j)
    .exact (((b j).2 e).1).imp (fun e=>Ak.2 (by rw [Ah.count];omega)) id
    .exact Or.inl (Ak.2 (by rw [Ah.count];omega))
   .have N:=I j K;have Y:=l j;have Z:=Ak.1 c;have a4:=FL Au.blocks j y.ps z r;omega
  .rw [jP.1 r];exact Au.fresh_at (C.but F G) T
theorem Pn {f:Au->List Nat} (y:Ah) (k:Nat) (a:k<y.ps.length) (z:Au) (j:Nat):((y.ps.set k z).flatMap f).count j+(f y.ps[k]).count j=(y.ps.flatMap f).count j+(f z).count j:=PN f j z y.ps k a
theorem AM.restart {base:Nat} {M:jr} {y:Ah} {w l:jj} {pz k g cap:Nat} {f:Int} (h:AM base M y w) (q:Aa w l) (m:w.heap.size<=pz) (N:pz<l.heap.size) (v:BX l pz f (.pointer none) 0 0 (.slice none 0 0) false) (O:0<=f/\f<=3) (P:k<y.ps.length) (G:y.vp= .slice (some ⟨g,0,none⟩) y.ps.length cap):
  B9 base M y w (l.setCell ⟨g,k,none⟩ (.pointer (some ⟨pz,0,none⟩))) {y with ps:=y.ps.set k (Au.fresh pz f)}:=by
 have n:=h.le;obtain ⟨m1,m2,m3,m4⟩:=h.mem;obtain ⟨o,r,Q,R⟩:=h.lt;have S:=q.size;have c:y.vp.ownBlock.toList=[g]:=by rw [G];rfl
 have x:g≠y.a:=fun e=>by
  have A:=n y.a;have H:=GS y.a;have T:1<=y.vp.ownBlock.toList.count y.a:=Ak.1 (by rw [c];simp [e]);omega
 have U:=o g (by rw [c];simp);have s:(l.setCell ⟨g,k,none⟩ (.pointer (some ⟨pz,0,none⟩))).heap.size=l.heap.size:=by simp [World.setCell]
 have p:Ab [g] l (l.setCell ⟨g,k,none⟩ (.pointer (some ⟨pz,0,none⟩))):=(Ab.refl _ _).set js _;have I:Ab [g] w (l.setCell ⟨g,k,none⟩ (.pointer (some ⟨pz,0,none⟩))):=(Ab.of_bel q).trans p;have B:pz∉[g]:=fun e=>by have:=jP.1 e;omega
 have C:=fun j=>Pn (f:=Au.blocks) y k P (Au.fresh pz f) j
 have D:(Au.fresh pz f).blocks=[pz]:=rfl;have E:∀j,(y.ps[k]).blocks.count j<=(y.ps.flatMap Au.blocks).count j:=fun j=>FL _ j _ _ (jJ _)
 have b:∀j,y.vp.ownBlock.toList.count j+((y.ps.set k (Au.fresh pz f)).flatMap Au.blocks).count j<=1/\(1<=y.vp.ownBlock.toList.count j+((y.ps.set k (Au.fresh pz f)).flatMap Au.blocks).count j->(1<=y.vp.ownBlock.toList.count j+(y.ps.flatMap Au.blocks).count j\/w.heap.size<=j)/\j<l.heap.size):=fun j=>by
  have V:=n j;have A:=C j;have H:=E j;rw [D] at A;by_cases J:pz=j
  .subst J;have q:=EJ r m;have b2:=EJ o m;have b3:=MP pz pz;exact ⟨jo,fun _=>⟨Or.inr m,jo⟩⟩
  .have q:=F9 J;refine ⟨jo,fun e=>?_⟩;have d:1<=y.vp.ownBlock.toList.count j+(y.ps.flatMap Au.blocks).count j:=jo
   refine ⟨Or.inl d,?_⟩
   have:j<w.heap.size:=by
    by_cases W:1<=y.vp.ownBlock.toList.count j
    .exact o j (Ak.2 W)
    .exact r j (Ak.2 jo)
   omega
 refine h.pl [g] I (fun j d=>?_) y.vp (y.ps.set k (Au.fresh pz f)) ?_ ?_ (by simpa using h.1.2.2.2.2.2.2.2.2.1) (fun j=>(b j).1) (fun j d=>?_) (fun z X=>?_)
 .have:=Ak.1 (show j∈y.vp.ownBlock.toList by rw [c];exact d);omega
 .exact (h.1.1.later q).but p (by simpa using Ne.symm x)
 .have K:=BG h.1.2.2.2.2.2.2.2.1 q;rw [G] at K |-;have Y:=(World.ownsRow.stored K k (.pointer (some ⟨pz,0,none⟩))).1;simpa [List.map_set,Au.fresh] using Y
 .rw [s];exact (b j).2 d
 .obtain ⟨i,Z,rfl⟩:=List.mem_iff_getElem.1 X;have t:i<y.ps.length:=by simpa using Z
  by_cases u:k=i
  .subst u;simp only [List.getElem_set_self];exact Au.fresh_at (v.but p B) O
  .simp only [List.getElem_set_ne u];refine h.others [g] I (fun j d=>Ak.2 (by rw [Ah.count,c];have:=Ak.1 d;omega)) _ (fun j d=>?_) _ (jJ t) (fun j d F=>?_)
   .have L:=Ak.1 d;rw [Ah.count] at L;simp only at L;by_cases e:1<=y.vp.ownBlock.toList.count j+((y.ps.set k (Au.fresh pz f)).flatMap Au.blocks).count j
    .exact (((b j).2 e).1).imp (fun e=>Ak.2 (by rw [Ah.count];omega)) id
    .exact Or.inl (Ak.2 (by rw [Ah.count];omega))
   .have V:=Ak.1 (show j∈y.vp.ownBlock.toList by rw [c];exact F);have A:=n j;have H:=Ak.1 d;have T:=FL Au.blocks j y.ps _ (jJ t);omega
theorem AM.comes {base:Nat} {M:jr} {y:Ah} {w W w':jj} {k:Nat} {e:Ending} (h:AM base M y w) (T:k<y.ps.length) (b0:Aa w W) {F:Option HX->Int->Int->List ByteArray->Bool->Prop} (hr:Jy W (y.ps[k]).p (y.ps[k]).speaks (y.ps[k]).has (y.ps[k]).got (y.ps[k]).hx F e w'):∃z:Au,B9 base M y w w' {y with ps:=y.ps.set k z}/\z.speaks=(y.ps[k]).speaks/\F z.hx z.gen z.format z.gs z.no:=by
 obtain ⟨-,H,b,X,Y,s,G,no,⟨q1,q2,q3,q4,q5,q6,q7⟩,hF,I⟩:=hr;have t:=h.le;obtain ⟨m1,m2,m3,m4⟩:=h.mem;obtain ⟨A,u,Z,aa⟩:=h.lt;have am:=b0.size;have an:=q1.size;have ao:(y.ps[k]).blocks=(y.ps[k]).p::(y.ps[k]).got.ownBlock.toList:=rfl;have J:Ab (y.ps[k]).blocks w w':=(Ab.of_bel b0).trans q1;have K:∀j,(y.ps[k]).blocks.count j<=(y.ps.flatMap Au.blocks).count j:=fun j=>FL _ j _ _ (jJ _)
 let z:Au:=⟨(y.ps[k]).p,(y.ps[k]).speaks,H,Y,s,b,G,no,X⟩
 have L:∀j,z.blocks.count j=[(y.ps[k]).p].count j+b.ownBlock.toList.count j:=fun j=>by
  have:z.blocks=[(y.ps[k]).p]++b.ownBlock.toList:=rfl;rw [this,List.count_append]
 have ab:∀j,(y.ps[k]).blocks.count j=[(y.ps[k]).p].count j+(y.ps[k]).got.ownBlock.toList.count j:=fun j=>by
  have:(y.ps[k]).blocks=[(y.ps[k]).p]++(y.ps[k]).got.ownBlock.toList:=rfl;rw [this,List.count_append]
 have N:=fun j=>Pn (f:=Au.blocks) y k T z j
 have ac:∀g,b.ownBlock=some g->g<w'.heap.size:=fun g e=>by
  rcases q5 with ⟨C,_⟩|⟨g2,ak,C,ap,_⟩
  .rw [C] at e;cases e
  .rw [C] at e;have:g2=g:=by simpa [Value.ownBlock] using e
   omega
 have al:(y.ps[k]).p<w.heap.size:=u _ (jd.2 ⟨_,jJ T,by simp [Au.blocks]⟩)
 have o:∀j,y.vp.ownBlock.toList.count j+((y.ps.set k z).flatMap Au.blocks).count j<=1/\(1<=y.vp.ownBlock.toList.count j+((y.ps.set k z).flatMap Au.blocks).count j->(1<=y.vp.ownBlock.toList.count j+(y.ps.flatMap Au.blocks).count j\/w.heap.size<=j)/\j<w'.heap.size):=fun j=>by
  have U:=t j;have V:=N j;have a3:=K j;have a4:=L j;have a5:=ab j
  have l:1<=y.vp.ownBlock.toList.count j+(y.ps.flatMap Au.blocks).count j->j<w'.heap.size:=fun e=>by
   have:j<w.heap.size:=by
    by_cases e3:1<=y.vp.ownBlock.toList.count j
    .exact A j (Ak.2 e3)
    .exact u j (Ak.2 jo)
   omega
  by_cases e1:1<=b.ownBlock.toList.count j
  .have C:b.ownBlock=some j:=by simpa using Ak.2 e1
   have e3:b.ownBlock.toList.count j=1:=by rw [C];simp
   obtain ⟨ad,ae⟩:=q7 j C;have e4:[(y.ps[k]).p].count j=0:=F9 (Ne.symm ad);rcases ae with e5|e5
   .have e6:(y.ps[k]).got.ownBlock.toList.count j=1:=by rw [e5];simp
    exact ⟨jo,fun e=>⟨Or.inl jo,l jo⟩⟩
   .have b1:=EJ u (show w.heap.size<=j by omega);have b2:=EJ A (show w.heap.size<=j by omega);exact ⟨jo,fun e=>⟨Or.inr jo,ac j C⟩⟩
  .refine ⟨jo,fun e=>?_⟩;have:1<=y.vp.ownBlock.toList.count j+(y.ps.flatMap Au.blocks).count j:=jo
   exact ⟨Or.inl this,l this⟩
 have O:((y.ps.set k z).map fun z=>Value.pointer (some ⟨z.p,0,none⟩))=y.ps.map fun z=>Value.pointer (some ⟨z.p,0,none⟩):=by
  apply List.ext_getElem
  .simp
  .intro i i1 i2;simp only [List.getElem_map,List.getElem_set];split
   .rename_i e;subst e;rfl
   .rfl
 have v:∀j∈(y.ps[k]).blocks,1<=(y.ps.flatMap Au.blocks).count j:=fun j n=>by
  have U:=Ak.1 n;have V:=K j;omega
 have P:∀j∈(y.ps[k]).blocks,j∈y.blocks:=fun j n=>Ak.2 (by rw [Ah.count];have:=v j n;omega)
 have Q:∀j∈Ah.blocks {y with vp:=y.vp,ps:=y.ps.set k z},j∈y.blocks\/w.heap.size<=j:=fun j n=>by
  have R:=Ak.1 n;rw [Ah.count] at R;simp only at R;by_cases e:1<=y.vp.ownBlock.toList.count j+((y.ps.set k z).flatMap Au.blocks).count j
  .exact (((o j).2 e).1).imp (fun e=>Ak.2 (by rw [Ah.count];omega)) id
  .exact Or.inl (Ak.2 (by rw [Ah.count];omega))
 refine ⟨z,h.pl (y.ps[k]).blocks J (fun j n=>by have:=v j n;omega) y.vp (y.ps.set k z) ?_ ?_ (by simpa using h.1.2.2.2.2.2.2.2.2.1) (fun j=>(o j).1) (fun j n=>(o j).2 n) (fun z' hz=>?_),rfl,hF⟩
 .exact h.1.1.but J (fun e => by
    have U := v _ e
    have V := t y.a
    have a3 := GS y.a
    omega)
 .rw [O,List.length_set]
  exact AY h.1.2.2.2.2.2.2.2.1 J (fun g x e => by
    have U := v _ e
    have V := t g
    have a3 : 1 <= y.vp.ownBlock.toList.count g := Ak.1 (by simp [x])
    omega)
 .obtain ⟨i,hi,rfl⟩:=List.mem_iff_getElem.1 hz;have S:i<y.ps.length:=by simpa using hi
  by_cases D:k=i
  .subst D;simp only [List.getElem_set_self];have hA:∀j∈Ah.blocks {y with vp:=y.vp,ps:=y.ps.set k z},j∈M\/w.heap.size<=j:=fun j n=>(Q j n).imp (fun e=>h.2.2.1 j e) id
   have l:=(h.1.app hA).2.2.2.2.2.2.2.2.2 _ (jJ T);refine ⟨q2,l.2.1,q3,q4,q5,q6,?_,fun g x=>(q7 g x).1⟩;rcases I with ⟨rfl,rfl⟩|⟨q,c,x,B,E,af,rfl,rfl,⟨vB,vE,⟨⟨h0,h1,h2,h3,h4,h5⟩,h6,h7,h8,h9,ag⟩,r1,r2,r3⟩,ah,hW⟩
   .have ai:=l.2.2.2.2.2.2.1;exact (ai.masks J (fun j n=>Or.inl (jU _ (h.2.2.1 j (P j n)))))
   .have r:∀j,W.heap.size<=j->j∉Ah.blocks {y with vp:=y.vp,ps:=y.ps.set k z}++M:=fun j n e=>by
     have hM:∀m∈M,m<w.heap.size:=h.2.1;rcases jT.1 e with e|e
     .have R:=Ak.1 e;rw [Ah.count] at R;simp only at R;have U:=EJ A (show w.heap.size<=j by omega);have V:=EJ u (show w.heap.size<=j by omega);have a3:=N j;have a4:=L j;have a5:b.ownBlock.toList.count j=0:=by rw [af];simp
      have a6:=F9 (show y.a≠j by omega);have a7:=F9 (show y.q≠j by omega);have a8:=F9 (show (y.ps[k]).p≠j by omega);have a9:=EJ Z (show w.heap.size<=j by omega);have aq:=EJ aa (show w.heap.size<=j by omega);omega
     .have:=hM j e;omega
    have d:=r q r1
    exact Or.inr ⟨q,c,x,B,E,rfl,rfl,⟨vB,vE,⟨Bn.2 ⟨h0,d⟩,Bn.2 ⟨h1,d⟩,Bn.2 ⟨h2,d⟩,Bn.2 ⟨h3,d⟩,Bn.2 ⟨h4,d⟩,Bn.2 ⟨h5,d⟩⟩,Bn.2 ⟨h6,d⟩,Bn.2 ⟨h7,d⟩,Bn.2 ⟨h8,d⟩,Ap.masks h9 (fun g x=>r g (r2 g x)),Ap.masks ag (fun g x=>r g (r3 g x))⟩,ah,hW⟩
  .simp only [List.getElem_set_ne D];refine h.others _ J P _ Q _ (jJ S) (fun j n aj=>?_);have b1:=MJ Au.blocks j y.ps i k S T (Ne.symm D);have b2:=Ak.1 n;have b3:=Ak.1 aj;have b4:=t j;omega
theorem AM.unchangedQ {base:Nat} {M:jr} {y:Ah} {w w':jj} (h:AM base M y w) (b:Aa w w'):B9 base M y w w' y:=by
 refine ⟨[],[],Ab.of_bel b,js,rfl,h.2.2.2.1,fun j a=>⟨Or.inl a,jN (h.2.1 j (h.2.2.1 j a)) b.size⟩,js,?_,jo⟩;exact (h.1.app (fun j a=>Or.inl (h.2.2.1 j a))).but (N:=[]) (Ab.of_bel b) js js
theorem AM.unchanged {base:Nat} {M:jr} {y:Ah} {w w':jj} (h:AM base M y w) (a:y.even) (b:Aa w w'):El base M y w w':=⟨y,h.unchangedQ b,a⟩
theorem AM.thenE {base:Nat} {M:jr} {y f:Ah} {P:Ah->Prop} {w l t:jj} (h:AM base M y w) (C:B9 base M y w l f) (D:f.g=y.g) (E:∀M',AM base M' f l->∃i,B9 base M' f l t i/\P i):∃i,B9 base M y w t i/\P i:=by
 obtain ⟨N,K,u,F,G,v,c,s,x, -⟩:=C;have m:∀j∈f.blocks,j∈M\/w.heap.size<=j:=fun j a=>(c j a).1.imp (h.2.2.1 j) id
 have H:AM base (f.blocks++(K++M)) f l:=by
  refine ⟨x,fun k b=>?_,fun j a=>jg _ a,v,by rw [D];exact h.2.2.2.2⟩;rcases jT.1 b with b|b
  .exact (c k b).2
  .rcases jT.1 b with b|b
   .exact (s k b).2
   .exact jN (h.2.1 k b) u.size
 obtain ⟨i,⟨B,I,n,z,A,o,d,p,q,J⟩,L⟩:=E _ H;have O:=u.size;have r:=n.size;refine ⟨i,⟨y.blocks,I++(f.blocks++K),?_,fun _ a=>a,A.trans G,o,fun j a=>⟨?_,(d j a).2⟩,fun j a=>?_,q.of_eq (by simp [List.append_assoc]),jo⟩,L⟩
 .have Q:Ab (y.blocks++B) w l:=u.mono (fun k b=>Or.inl (jg _ (F k b)));have R:Ab (y.blocks++B) l t:=n.mono (fun k b=>Or.inl (jU _ b))
  exact (Q.trans R).mono (fun k b => by
    rcases jT.1 b with b | b
    . exact Or.inl b
    . exact (c k (z k b)).1)
 .rcases (d j a).1 with e|e
  .exact (c j e).1
  .exact Or.inr jo
 .rcases jT.1 a with a|a
  .refine ⟨?_,(p j a).2⟩;rcases (p j a).1 with e|e
   .rcases jT.1 e with e|e
    .exact m j e
    .rcases jT.1 e with e|e
     .exact (s j e).1
     .exact Or.inl e
   .exact Or.inr jo
  .rcases jT.1 a with a|a
   .exact ⟨m j a,jN (c j a).2 r⟩
   .exact ⟨(s j a).1,jN (s j a).2 r⟩
theorem AM.then {base:Nat} {M:jr} {y a b:Ah} {w c d:jj} (h:AM base M y w) (i:B9 base M y w c a) (k:a.g=y.g) (l:∀M',AM base M' a c->B9 base M' a c d b):B9 base M y w d b:=by
 obtain ⟨f,m,rfl⟩:=h.thenE (P:=fun f=>f=b) i k (fun M' n=>⟨b,l M' n,rfl⟩);exact m
theorem AM.later {base:Nat} {M:jr} {y:Ah} {w w':jj} (h:AM base M y w) (b:Aa w w'):AM base M y w':=
 ⟨h.1.but (N:=[]) (Ab.of_bel b) js js,fun k a=>jN (h.2.1 k a) b.size,h.2.2.1,h.2.2.2⟩
theorem B9.from {base:Nat} {M:jr} {y c:Ah} {w d f:jj} (h:B9 base M y d f c) (b:Aa w d):B9 base M y w f c:=by
 obtain ⟨N,K,k,l,m,n,g,i,o,p⟩:=h;exact ⟨N,K,(Ab.of_bel b).trans k,l,m,n,fun j a=>⟨(g j a).1.imp id (fun e=>jX b.size e),(g j a).2⟩,fun j a=>⟨(i j a).1.imp id (fun e=>jX b.size e),(i j a).2⟩,o,p⟩
def Lk (M:jr) (b c:jj):Prop:=∀(a:Addr) (v:ju),a.block∉M->b.cell? a=some v->c.cell? a=some v
theorem AM.lk {base:Nat} {M:jr} {y d:Ah} {b c:jj} (h:AM base M y b) (f:B9 base M y b c d):Lk M b c:=fun a v g i=>by
 obtain ⟨N,K,k,l, -⟩:=f;exact k.cell i (fun e=>g (h.2.2.1 _ (l _ e)))
theorem AM.prog {base:Nat} {M:jr} {y:Ah} {w n:jj} (h:AM base M y w) (N:jr) (p:Ab N w n) (S:∀j∈N,j∈y.svp.own y.q) (i:jr) (b:List (Nat×AF×List Nat)) (K:jr) (P:∀j∈K,(j∈M\/w.heap.size<=j)/\j<n.heap.size) (C:AG (K++M) y.q ⟨y.c,y.B,y.g,i,b⟩ n)
  (k:∀j,1<=i.count j+(Bh b).count j->(1<=y.L.count j+(Bh y.pp).count j\/w.heap.size<=j)/\j<n.heap.size):B9 base M y w n {y with L:=i,pp:=b}:=by
 have r:=h.le;obtain ⟨D,E,T,U⟩:=h.lt;obtain ⟨m1,m2,m3,m4⟩:=h.mem;have F:=p.size;have G:=C.inM;have H:=DK C.nodup;have o:=FZ ⟨y.c,y.B,y.g,i,b⟩ y.q;simp only at o;have f:=Ah.count {y with L:=i,pp:=b};simp only at f;have m:=FZ y.svp y.q;simp only [Ah.svp] at m
 have s:∀j∈N,1<=[y.q].count j+y.L.count j+(Bh y.pp).count j:=fun j d=>by
  have A:=Ak.1 (S j d);have I:=m j;simp only [Ah.svp] at A;omega
 have t:∀j∈N,j∈y.blocks:=fun j d=>Ak.2 (by rw [Ah.count];have:=s j d;omega)
 have u:∀j∈Ah.blocks {y with L:=i,pp:=b},(j∈y.blocks\/w.heap.size<=j)/\j<n.heap.size:=fun j d=>by
  have J:=Ak.1 d;rw [f] at J;by_cases v:1<=i.count j+(Bh b).count j
  .exact ⟨(k j v).1.imp (fun e=>Ak.2 (by rw [Ah.count];omega)) id,(k j v).2⟩
  .have:j∈y.blocks:=Ak.2 (by rw [Ah.count];omega);exact ⟨Or.inl this,jN (h.2.1 j (h.2.2.1 j this)) F⟩
 have V:∀j∈Ah.blocks {y with L:=i,pp:=b}++K,j∈M\/w.heap.size<=j:=fun j d=>(jT.1 d).elim (fun e=>(u j e).1.imp (h.2.2.1 j) id) (fun e=>(P j e).1)
 have x:∀j∈N,j∈Ah.blocks {y with L:=i,pp:=b}++(K++M)\/w.heap.size<=j:=fun j d=>Or.inl (jU _ (jU _ (h.2.2.1 j (t j d))))
 have l:∀j,1<=[y.a].count j+y.vp.ownBlock.toList.count j+(y.ps.flatMap Au.blocks).count j->j∉N:=fun j d e=>by
  have A:=s j e;have I:=r j;omega
 obtain ⟨W,h2,X,Y,Z,h6,h7,h8,h9,O⟩:=(h.1.app V).of_eq (List.append_assoc _ _ _);have Q:Aa (Ay (Ah.blocks {y with L:=i,pp:=b}++(K++M)) w) (Ay (Ah.blocks {y with L:=i,pp:=b}++(K++M)) n):=p.mono x;refine ⟨N,K,p,t,rfl,List.nodup_iff_count.2 fun a=>?_,u,P,⟨W.but p (l _ (by have:=GS y.a;omega)),?_,X.later Q,Y,Z,h6,h7.later Q,AY h8 p (fun g hg=>l g (by have:=Ak.1 (show g∈y.vp.ownBlock.toList by simp [hg]);omega)),h9,fun z R=>(O z R).but p x (fun j d=>l j ?_)⟩,by show y.g<=y.g+1;omega⟩
 .rw [f];have A:=r a;have I:=H a;have a3:=o a;by_cases v:1<=i.count a+(Bh b).count a
  .rcases (k a v).1 with e|e
   .omega
   .have b1:=F9 (show y.a≠a by omega);have b2:=EJ D e;have b3:=EJ E e;omega
  .omega
 .refine C.wide (fun j d=>jU _ d) (fun j d=>Or.inl ?_);rcases jT.1 d with d|d
  .have J:=Ak.1 d;rw [f] at J;by_cases v:1<=i.count j+(Bh b).count j
   .exact G j (Ak.2 (by have:=o j;omega))
   .exact jU _ (h.2.2.1 j (Ak.2 (by rw [Ah.count];omega)))
  .exact d
 .have A:=FL Au.blocks j y.ps z R;have I:=Ak.1 d;omega
theorem AM.planeP {base:Nat} {M:jr} {y:Ah} {w s:jj} {n:Nat} {f:AF} {e:Ending} (h:AM base M y w) (k:n<y.pp.length) (z:Ml M y.q y.svp n k f w e s):∃c,B9 base M y w s {y with pp:=y.pp.set n (y.pp[n].1,f,c)}:=by
 obtain ⟨-,c,l,t,A⟩:=z;obtain ⟨B,C,m,o⟩:=h.lt;have D:=t.size;have b:=fun a=>JW k a
 have d:=FZ y.svp y.q;simp only [Ah.svp] at d;have g:=fun a=>OH a (y.pp[n].1,f,c) y.pp n k
 have u:y.svp.ps[n]=y.pp[n]:=rfl;refine ⟨c,h.prog _ t (fun j i=>Ak.2 ?_) y.L _ c (fun j i=>⟨?_,(l j i).2⟩) A (fun j i=>?_)⟩
 .have p:=Ak.1 i;have v:=b j;have x:=d j;simp only [Ah.svp] at p |-;omega
 .rcases (l j i).1 with e|e
  .refine Or.inl (h.2.2.1 j (Ak.2 ?_));rw [Ah.count];have p:=b j;have v:1<=(y.pp[n].1::y.pp[n].2.2).count j:=Ak.1 (jW _ e);omega
  .exact Or.inr e
 .have p:=g j;have v:=b j;by_cases E:1<=y.L.count j+(Bh y.pp).count j
  .refine ⟨Or.inl E,?_⟩;by_cases e:1<=y.L.count j
   .have:=m j (Ak.2 e);omega
   .have:=o j (Ak.2 jo);omega
  .have x:1<=(y.pp[n].1::c).count j:=by
    show 1<=((y.pp[n].1,f,c).1::(y.pp[n].1,f,c).2.2).count j;omega
   rcases ja.1 (Ak.2 x) with e|e
   .have F:1<=(y.pp[n].1::y.pp[n].2.2).count j:=Ak.1 (by rw [e];exact List.mem_cons_self)
    omega
   .have:=l j e
    refine ⟨?_,this.2⟩
    rcases this.1 with r|r
    .have F:1<=(y.pp[n].1::y.pp[n].2.2).count j:=Ak.1 (jW _ r)
     omega
    .exact Or.inr r
theorem AM.joinP {base:Nat} {M:jr} {y:Ah} {w t:jj} {fm:Nat} {e:Ending} (h:AM base M y w) (v:Oz M y.q y.svp fm w e t):e= .returned (.tuple #[.int .i64 (y.pp.length:Int),.int .i64 0])/\∃p d,B9 base M y w t {y with L:=d,pp:=y.pp++[(p,DX fm,[])]}:=by
 obtain ⟨p,d,x,u,⟨g,i⟩,l,z⟩:=v;obtain ⟨A,B,m,n⟩:=h.lt;have C:=u.size;have b:=FZ y.svp y.q;simp only [Ah.svp] at b
 have o:∀a,(Bh (y.pp++[(p,DX fm,[])])).count a=(Bh y.pp).count a+[p].count a:=fun a=>by
  unfold Bh;rw [List.flatMap_append,List.count_append];rfl
 have r:y.svp.L=y.L:=rfl;refine ⟨x,p,d,h.prog _ u (fun j c=>Ak.2 ?_) d _ (p::d) (fun j c=>?_) z (fun j c=>?_)⟩
 .have s:=Ak.1 c;have D:=b j
  have E:(y.q::y.L).count j=[y.q].count j+y.L.count j:=by
   have:y.q::y.L=[y.q]++y.L:=rfl;rw [this,List.count_append]
  rw [r] at s;simp only [Ah.svp] at s |-;omega
 .rcases ja.1 c with e|c
  .rw [e];exact ⟨Or.inr g,i⟩
  .refine ⟨(l j c).1.imp (fun e=>h.2.2.1 j (Ak.2 ?_)) id,(l j c).2⟩;rw [Ah.count];have:=Ak.1 (show j∈y.L from e);omega
 .rw [o] at c;by_cases k:1<=y.L.count j+(Bh y.pp).count j
  .refine ⟨Or.inl k,?_⟩;by_cases e:1<=y.L.count j
   .have:=m j (Ak.2 e);omega
   .have:=n j (Ak.2 jo);omega
  .by_cases f:j∈d
   .refine ⟨(l j f).1.imp (fun e=>?_) id,(l j f).2⟩;have:=Ak.1 (show j∈y.L from e);omega
   .have s:d.count j=0:=jZ fun o=>f (jb.1 o)
    have:j∈[p]:=Ak.2 jo;rw [jP.1 this];exact ⟨Or.inr g,i⟩
def O3 (base:Nat) (M:jr) (y:Ah) (n:Nat) (c:AF) (w d:jj) (e:Ending) (a:jj):Prop:=e= .returned (.int .i64 0)/\Lk M d a/\∃(b:Nat) (f:jr),B9 base M y w a {y with pp:=y.pp.set n (b,c,f)}
theorem AM.receive {base:Nat} {M:jr} {y:Ah} {w:jj} (h:AM base M y w) {n:Nat} (d:n<y.pp.length) (t:jt) (i:t.size<=1099511627776) (c:jj) (b:Aa w c):
  Calls Tryz.prog 79 #[.pointer (some ⟨y.q,0,none⟩),.int .i64 (n:Int),.string t] c (O3 base M y n (Ju y.pp[n].2.1 t.data.toList) w c):=by
 have a:=h.later b;refine (U8 (x:=y.svp) a.1.2.1 a.2.1 d t i).mono ?_;intro e l f;obtain ⟨k,g⟩:=a.planeP d f;exact ⟨f.1,a.lk g,_,k,g.from b⟩
theorem AM.restartP {base:Nat} {M:jr} {y:Ah} {w:jj} (h:AM base M y w) {n:Nat} (d:n<y.pp.length) (c:jj) (b:Aa w c):
  Calls Tryz.prog 81 #[.pointer (some ⟨y.q,0,none⟩),.int .i64 (n:Int)] c (O3 base M y n (DX y.pp[n].2.1.fm) w c):=by
 have a:=h.later b;refine (Wt (x:=y.svp) a.1.2.1 a.2.1 d).mono ?_;intro e k f;obtain ⟨i,g⟩:=a.planeP d f;exact ⟨f.1,a.lk g,_,i,g.from b⟩
theorem Ah.even.set {y:Ah} (h:y.even) {n:Nat} (c:n<y.ps.length) {z:Au} {q:Nat×AF×List Nat} (d:z.rel q.2.1):Ah.even {y with ps:=y.ps.set n z,pp:=y.pp.set n q}:=by
 have f:=h.1;refine ⟨by simp only [List.length_set];exact f,fun k g i a b=>?_⟩;by_cases e:n=k
 .subst e;simp only at a b;rw [List.getElem?_set_self c] at a;rw [List.getElem?_set_self jo] at b;injection a with a
  injection b with b
  rw [<-a,<-b];exact d
 .simp only at a b;rw [List.getElem?_set_ne e] at a b;exact h.2 k g i a b
theorem Ah.even.add {y:Ah} (h:y.even) {z:Au} {q:Nat×AF×List Nat} (f:z.rel q.2.1) {v:ju} {L:jr}:Ah.even {y with vp:=v,ps:=y.ps++[z],L:=L,pp:=y.pp++[q]}:=by
 have g:=h.1;refine ⟨by simp only [jO,List.length_singleton];omega,fun k i l a b=>?_⟩;simp only at a b;rcases Nat.lt_or_ge k y.ps.length with e|e
 .rw [List.getElem?_append_left e] at a;rw [List.getElem?_append_left jo] at b;exact h.2 k i l a b
 .have d:k=y.ps.length:=by
   rcases Nat.lt_or_ge k (y.ps++[z]).length with c|c
   .simp at c;omega
   .rw [List.getElem?_eq_none c] at a;cases a
  rw [d,List.getElem?_append_right (jH _),Nat.sub_self] at a
  rw [d,<-g,List.getElem?_append_right (jH _),Nat.sub_self] at b
  simp only [List.getElem?_cons_zero,Option.some.injEq] at a b
  rw [<-a,<-b]
  exact f
theorem Ah.even.at {y:Ah} (h:y.even) {n:Nat} (a:n<y.ps.length) (b:n<y.pp.length):(y.ps[n]).rel (y.pp[n]).2.1:=h.2 n _ _ (jG a) (jG b)
end Go.Proofs.YtpapdkhjdelfcaaGreat
