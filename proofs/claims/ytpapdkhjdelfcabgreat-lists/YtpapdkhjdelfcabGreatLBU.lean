import Derived.Test.YtpapdkhjdelfcabGreatLBT
namespace Go.Proofs.YtpapdkhjdelfcabGreat
open Go.RowKit
set_option maxRecDepth 100000
set_option maxHeartbeats 4000000
theorem EJ {L:List Nat} {j n:Nat} (h:∀k∈L,k<n) (hj:n≤j):L.count j=0:=jZ fun e=>by
 have:=h j (jb.1 e);omega
theorem F9 {a j:Nat} (h:a≠j):[a].count j=0:=jZ fun e=>h (jP.1 (jb.1 e)).symm
theorem MP (a j:Nat):[a].count j≤1:=DK (by simp) j
theorem AM.lt {base:Nat} {M:List Nat} {y:Ah} {w:World} (h:AM base M y w):(∀k∈y.vp.ownBlock.toList,k<w.heap.size)∧(∀k∈y.ps.flatMap Au.blocks,k<w.heap.size)∧(∀k∈y.L,k<w.heap.size)∧∀k∈Bh y.pp,k<w.heap.size:=
 ⟨fun k hk=>h.2.1 k (h.2.2.1 k (Ak.2 (by rw [Ah.count];have:=Ak.1 hk;omega))),fun k hk=>h.2.1 k (h.2.2.1 k (Ak.2 (by rw [Ah.count];have:=Ak.1 hk;omega))),fun k hk=>h.2.1 k (h.2.2.1 k (Ak.2 (by rw [Ah.count];have:=Ak.1 hk;omega))),fun k hk=>h.2.1 k (h.2.2.1 k (Ak.2 (by rw [Ah.count];have:=Ak.1 hk;omega)))⟩
def Au.fresh (p:Nat) (f:Int):Au:=⟨p,f,.pointer none,0,0,.slice none 0 0,0,false⟩
theorem Au.fresh_at {M:List Nat} {w:World} {p:Nat} {f:Int} (h:BX w p f (.pointer none) 0 0 (.slice none 0 0) false) (hf:0≤f∧f≤3):(Au.fresh p f).At M w:=
 ⟨h,hf,(show Aj 0 from ⟨by decide,by decide⟩),(show Aj 0 from ⟨by decide,by decide⟩),Or.inl ⟨rfl,rfl⟩,(show 0≤65535 by decide),⟨0,Or.inl ⟨rfl,rfl⟩⟩,fun g hg=>by cases hg⟩
theorem BX.but {N:List Nat} {w w':World} {p:Nat} {speaks:Int} {has:Value} {gen format:Int} {got:Value} {no:Bool} (h:BX w p speaks has gen format got no) (k:Ab N w w') (hp:p∉N):BX w' p speaks has gen format got no:=by
 obtain ⟨⟨h0,h1,h2,h3,h4,h5⟩,hf⟩:=h;refine ⟨⟨k.cell h0 hp,k.cell h1 hp,k.cell h2 hp,k.cell h3 hp,k.cell h4 hp,k.cell h5 hp⟩,fun j=>?_⟩;rw [World.frozen?_of_block (w:=w) (k.block p (jF h0) hp)];exact hf j
theorem AM.join {base:Nat} {M:List Nat} {y:Ah} {w w1 w2:World} {pz g cap:Nat} {f:Int} (h:AM base M y w) (b1:Aa w w1) (hp1:w.heap.size≤pz) (hp2:pz<w1.heap.size) (hpl:BX w1 pz f (.pointer none) 0 0 (.slice none 0 0) false) (hf:0≤f∧f≤3) (hb:Ab y.vp.ownBlock.toList w1 w2)
  (hrow:w2.ownsRow base 134 1 (sl g (y.ps.length+1) cap) (y.ps.length+1) ((y.ps.map fun z=>Value.pointer (some ⟨z.p,0,none⟩))++[.pointer (some ⟨pz,0,none⟩)])) (hg:y.vp.ownBlock=some g∨w1.heap.size≤g) (hlen:y.ps.length<4):
  B9 base M y w (w2.setCell ⟨y.a,9,none⟩ (sl g (y.ps.length+1) cap)) {y with vp:=sl g (y.ps.length+1) cap,ps:=y.ps++[Au.fresh pz f]}:=by
 have hle:=h.le;obtain ⟨m1,m2,m3,m4⟩:=h.mem;obtain ⟨lt1,lt2,lt3,lt4⟩:=h.lt;have hs1:=b1.size;have hs2:=hb.size
 have hva:∀k∈y.vp.ownBlock.toList,k≠y.a:=fun k hk e=>by
  subst e;have a1:=Ak.1 hk;have a2:=hle y.a;have a3:=GS y.a;omega
 have hga:g≠y.a:=by
  rcases hg with e|e
  ·exact hva g (by simp [e])
  ·omega
 have hgl:g<w2.heap.size:=(World.ownsRow.lt hrow g rfl).2;have hset:(w2.setCell ⟨y.a,9,none⟩ (sl g (y.ps.length+1) cap)).heap.size=w2.heap.size:=by simp [World.setCell]
 have bw:Ab (y.a::y.vp.ownBlock.toList) w (w2.setCell ⟨y.a,9,none⟩ (sl g (y.ps.length+1) cap)):=(((Ab.of_bel b1).trans hb).mono (fun k hk=>Or.inl (jW _ hk))).put (Or.inl (by simp)) _;have bw1:Ab (y.a::y.vp.ownBlock.toList) w1 (w2.setCell ⟨y.a,9,none⟩ (sl g (y.ps.length+1) cap)):=(hb.mono (fun k hk=>Or.inl (jW _ hk))).put (Or.inl (by simp)) _
 have hpN:pz∉y.a::y.vp.ownBlock.toList:=fun e=>by
  rcases ja.1 e with e|e
  ·omega
  ·have:=lt1 pz e;omega
 have hgp:g≠pz:=by
  rcases hg with e|e
  ·have:=lt1 g (by simp [e]);omega
  ·omega
 have hN:∀j∈y.a::y.vp.ownBlock.toList,1≤[y.a].count j+y.vp.ownBlock.toList.count j:=fun j hj=>by
  rcases ja.1 hj with rfl|hj
  ·have:=GS y.a;omega
  ·have:=Ak.1 hj;omega
 have hfl:∀j,((y.ps++[Au.fresh pz f]).flatMap Au.blocks).count j=(y.ps.flatMap Au.blocks).count j+[pz].count j:=fun j=>by
  simp [List.count_append,Au.blocks,Au.fresh,Value.ownBlock]
 have hv:(sl g (y.ps.length+1) cap).ownBlock.toList=[g]:=rfl
 have hcase:∀j,[g].count j+((y.ps.flatMap Au.blocks).count j+[pz].count j)≤1∧(1≤[g].count j+((y.ps.flatMap Au.blocks).count j+[pz].count j)→(1≤y.vp.ownBlock.toList.count j+(y.ps.flatMap Au.blocks).count j∨w.heap.size≤j)∧j<w2.heap.size):=fun j=>by
  have a1:=hle j;by_cases e1:pz=j
  ·subst e1;have b1:=EJ lt2 hp1;have b2:=F9 hgp;have b3:=MP pz pz;exact ⟨by omega,fun _=>⟨Or.inr hp1,by omega⟩⟩
  ·have b1:=F9 e1;by_cases e2:g=j
   ·subst e2;have b3:=MP g g;rcases hg with e|e
    ·have b4:1≤y.vp.ownBlock.toList.count g:=Ak.1 (by simp [e]);exact ⟨by omega,fun _=>⟨Or.inl (by omega),hgl⟩⟩
    ·have b4:=EJ lt2 (show w.heap.size≤g by omega);exact ⟨by omega,fun _=>⟨Or.inr (by omega),hgl⟩⟩
   ·have b2:=F9 e2;refine ⟨by omega,fun e=>⟨Or.inl (by omega),?_⟩⟩;have:j∈y.ps.flatMap Au.blocks:=Ak.2 (by omega);have:=lt2 j this;omega
 refine h.pl (y.a::y.vp.ownBlock.toList) bw (fun j hj=>by have:=hN j hj;omega) (sl g (y.ps.length+1) cap) (y.ps++[Au.fresh pz f]) ?_ ?_ (by simp;omega) (fun j=>?_) (fun j hj=>?_) (fun z hz=>?_)
 ·exact ((h.1.1.later b1).but hb (fun e=>hva y.a e rfl)).set 9 _
 ·have := AY hrow ((Ab.refl [y.a] w2).set (p := ⟨y.a, 9, none⟩) (by simp) (sl g (y.ps.length + 1) cap)) (fun k hk hm => by
    have : g = k := by simpa [sl, Value.ownBlock] using hk
    exact hga (by rw [this, jP.1 hm]))
  simpa [Au.fresh] using this
 ·rw [hv,hfl];exact (hcase j).1
 ·rw [hv,hfl] at hj;rw [hset];exact (hcase j).2 hj
 ·rcases jT.1 hz with hz|hz
  ·refine h.others _ bw (fun j hj=>Ak.2 (by rw [Ah.count];have:=hN j hj;omega)) _ (fun j hj=>?_) z hz (fun j hj hjN=>?_)
   ·have a0:=Ak.1 hj;rw [Ah.count] at a0;simp only [hv,hfl] at a0;by_cases e:1≤[g].count j+((y.ps.flatMap Au.blocks).count j+[pz].count j)
    ·exact (((hcase j).2 e).1).imp (fun e=>Ak.2 (by rw [Ah.count];omega)) id
    ·exact Or.inl (Ak.2 (by rw [Ah.count];omega))
   ·have a1:=hN j hjN;have a2:=hle j;have a3:=Ak.1 hj;have a4:=FL Au.blocks j y.ps z hz;omega
  ·rw [jP.1 hz];exact Au.fresh_at (hpl.but bw1 hpN) hf
theorem Pn {f:Au→List Nat} (y:Ah) (k:Nat) (hk:k<y.ps.length) (z:Au) (j:Nat):((y.ps.set k z).flatMap f).count j+(f y.ps[k]).count j=(y.ps.flatMap f).count j+(f z).count j:=PN f j z y.ps k hk
theorem AM.restart {base:Nat} {M:List Nat} {y:Ah} {w w1:World} {pz k g cap:Nat} {f:Int} (h:AM base M y w) (b1:Aa w w1) (hp1:w.heap.size≤pz) (hp2:pz<w1.heap.size) (hpl:BX w1 pz f (.pointer none) 0 0 (.slice none 0 0) false) (hf:0≤f∧f≤3) (hk:k<y.ps.length) (hv:y.vp= .slice (some ⟨g,0,none⟩) y.ps.length cap):
  B9 base M y w (w1.setCell ⟨g,k,none⟩ (.pointer (some ⟨pz,0,none⟩))) {y with ps:=y.ps.set k (Au.fresh pz f)}:=by
 have hle:=h.le;obtain ⟨m1,m2,m3,m4⟩:=h.mem;obtain ⟨lt1,lt2,lt3,lt4⟩:=h.lt;have hs1:=b1.size;have hvt:y.vp.ownBlock.toList=[g]:=by rw [hv];rfl
 have hga:g≠y.a:=fun e=>by
  have a2:=hle y.a;have a3:=GS y.a;have a4:1≤y.vp.ownBlock.toList.count y.a:=Ak.1 (by rw [hvt];simp [e]);omega
 have hgl:=lt1 g (by rw [hvt];simp);have hset:(w1.setCell ⟨g,k,none⟩ (.pointer (some ⟨pz,0,none⟩))).heap.size=w1.heap.size:=by simp [World.setCell]
 have bw1:Ab [g] w1 (w1.setCell ⟨g,k,none⟩ (.pointer (some ⟨pz,0,none⟩))):=(Ab.refl _ _).set (by simp) _;have bw:Ab [g] w (w1.setCell ⟨g,k,none⟩ (.pointer (some ⟨pz,0,none⟩))):=(Ab.of_bel b1).trans bw1;have hpN:pz∉[g]:=fun e=>by have:=jP.1 e;omega
 have hfl:=fun j=>Pn (f:=Au.blocks) y k hk (Au.fresh pz f) j
 have hfr:(Au.fresh pz f).blocks=[pz]:=rfl;have h1k:∀j,(y.ps[k]).blocks.count j≤(y.ps.flatMap Au.blocks).count j:=fun j=>FL _ j _ _ (jJ _)
 have hcase:∀j,y.vp.ownBlock.toList.count j+((y.ps.set k (Au.fresh pz f)).flatMap Au.blocks).count j≤1∧(1≤y.vp.ownBlock.toList.count j+((y.ps.set k (Au.fresh pz f)).flatMap Au.blocks).count j→(1≤y.vp.ownBlock.toList.count j+(y.ps.flatMap Au.blocks).count j∨w.heap.size≤j)∧j<w1.heap.size):=fun j=>by
  have a1:=hle j;have a2:=hfl j;have a3:=h1k j;rw [hfr] at a2;by_cases e1:pz=j
  ·subst e1;have b1:=EJ lt2 hp1;have b2:=EJ lt1 hp1;have b3:=MP pz pz;exact ⟨by omega,fun _=>⟨Or.inr hp1,by omega⟩⟩
  ·have b1:=F9 e1;refine ⟨by omega,fun e=>?_⟩;have hj:1≤y.vp.ownBlock.toList.count j+(y.ps.flatMap Au.blocks).count j:=by omega
   refine ⟨Or.inl hj,?_⟩
   have:j<w.heap.size:=by
    by_cases e3:1≤y.vp.ownBlock.toList.count j
    ·exact lt1 j (Ak.2 e3)
    ·exact lt2 j (Ak.2 (by omega))
   omega
 refine h.pl [g] bw (fun j hj=>?_) y.vp (y.ps.set k (Au.fresh pz f)) ?_ ?_ (by simpa using h.1.2.2.2.2.2.2.2.2.1) (fun j=>(hcase j).1) (fun j hj=>?_) (fun z hz=>?_)
 ·have:=Ak.1 (show j∈y.vp.ownBlock.toList by rw [hvt];exact hj);omega
 ·exact (h.1.1.later b1).but bw1 (by simpa using Ne.symm hga)
 ·have q0:=BG h.1.2.2.2.2.2.2.2.1 b1;rw [hv] at q0 ⊢;have q1:=(World.ownsRow.stored q0 k (.pointer (some ⟨pz,0,none⟩))).1;simpa [List.map_set,Au.fresh] using q1
 ·rw [hset];exact (hcase j).2 hj
 ·obtain ⟨i,hi,rfl⟩:=List.mem_iff_getElem.1 hz;have hi':i<y.ps.length:=by simpa using hi
  by_cases hik:k=i
  ·subst hik;simp only [List.getElem_set_self];exact Au.fresh_at (hpl.but bw1 hpN) hf
  ·simp only [List.getElem_set_ne hik];refine h.others [g] bw (fun j hj=>Ak.2 (by rw [Ah.count,hvt];have:=Ak.1 hj;omega)) _ (fun j hj=>?_) _ (jJ hi') (fun j hj hjN=>?_)
   ·have a0:=Ak.1 hj;rw [Ah.count] at a0;simp only at a0;by_cases e:1≤y.vp.ownBlock.toList.count j+((y.ps.set k (Au.fresh pz f)).flatMap Au.blocks).count j
    ·exact (((hcase j).2 e).1).imp (fun e=>Ak.2 (by rw [Ah.count];omega)) id
    ·exact Or.inl (Ak.2 (by rw [Ah.count];omega))
   ·have a1:=Ak.1 (show j∈y.vp.ownBlock.toList by rw [hvt];exact hjN);have a2:=hle j;have a3:=Ak.1 hj;have a4:=FL Au.blocks j y.ps _ (jJ hi');omega
theorem AM.comes {base:Nat} {M:List Nat} {y:Ah} {w w0 w':World} {k:Nat} {e:Ending} (h:AM base M y w) (hk:k<y.ps.length) (b0:Aa w w0) (hr:Jy w0 (y.ps[k]).p (y.ps[k]).speaks (y.ps[k]).has (y.ps[k]).got e w'):∃z:Au,B9 base M y w w' {y with ps:=y.ps.set k z}:=by
 obtain ⟨-,has',got',hg,gen,format,ng,no,⟨q1,q2,q3,q4,q5,q6,q7⟩,hhas⟩:=hr;have hle:=h.le;obtain ⟨m1,m2,m3,m4⟩:=h.mem;obtain ⟨lt1,lt2,lt3,lt4⟩:=h.lt;have hs0:=b0.size;have hs1:=q1.size;have hbl:(y.ps[k]).blocks=(y.ps[k]).p::(y.ps[k]).got.ownBlock.toList:=rfl;have bw:Ab (y.ps[k]).blocks w w':=(Ab.of_bel b0).trans q1;have h1k:∀j,(y.ps[k]).blocks.count j≤(y.ps.flatMap Au.blocks).count j:=fun j=>FL _ j _ _ (jJ _)
 let z:Au:=⟨(y.ps[k]).p,(y.ps[k]).speaks,has',gen,format,got',ng,no⟩
 have hzb:∀j,z.blocks.count j=[(y.ps[k]).p].count j+got'.ownBlock.toList.count j:=fun j=>by
  have:z.blocks=[(y.ps[k]).p]++got'.ownBlock.toList:=rfl;rw [this,List.count_append]
 have hpb:∀j,(y.ps[k]).blocks.count j=[(y.ps[k]).p].count j+(y.ps[k]).got.ownBlock.toList.count j:=fun j=>by
  have:(y.ps[k]).blocks=[(y.ps[k]).p]++(y.ps[k]).got.ownBlock.toList:=rfl;rw [this,List.count_append]
 have hfl:=fun j=>Pn (f:=Au.blocks) y k hk z j
 have hgl:∀g,got'.ownBlock=some g→g<w'.heap.size:=fun g e=>by
  rcases q5 with ⟨e2,_⟩|⟨g2,cap2,e2,hlt,_⟩
  ·rw [e2] at e;cases e
  ·rw [e2] at e;have:g2=g:=by simpa [Value.ownBlock] using e
   omega
 have hplt:(y.ps[k]).p<w.heap.size:=lt2 _ (jd.2 ⟨_,jJ hk,by simp [Au.blocks]⟩)
 have hcase:∀j,y.vp.ownBlock.toList.count j+((y.ps.set k z).flatMap Au.blocks).count j≤1∧(1≤y.vp.ownBlock.toList.count j+((y.ps.set k z).flatMap Au.blocks).count j→(1≤y.vp.ownBlock.toList.count j+(y.ps.flatMap Au.blocks).count j∨w.heap.size≤j)∧j<w'.heap.size):=fun j=>by
  have a1:=hle j;have a2:=hfl j;have a3:=h1k j;have a4:=hzb j;have a5:=hpb j
  have hold:1≤y.vp.ownBlock.toList.count j+(y.ps.flatMap Au.blocks).count j→j<w'.heap.size:=fun e=>by
   have:j<w.heap.size:=by
    by_cases e3:1≤y.vp.ownBlock.toList.count j
    ·exact lt1 j (Ak.2 e3)
    ·exact lt2 j (Ak.2 (by omega))
   omega
  by_cases e1:1≤got'.ownBlock.toList.count j
  ·have e2:got'.ownBlock=some j:=by simpa using Ak.2 e1
   have e3:got'.ownBlock.toList.count j=1:=by rw [e2];simp
   obtain ⟨hne,hor⟩:=q7 j e2;have e4:[(y.ps[k]).p].count j=0:=F9 (Ne.symm hne);rcases hor with e5|e5
   ·have e6:(y.ps[k]).got.ownBlock.toList.count j=1:=by rw [e5];simp
    exact ⟨by omega,fun e=>⟨Or.inl (by omega),hold (by omega)⟩⟩
   ·have b1:=EJ lt2 (show w.heap.size≤j by omega);have b2:=EJ lt1 (show w.heap.size≤j by omega);exact ⟨by omega,fun e=>⟨Or.inr (by omega),hgl j e2⟩⟩
  ·refine ⟨by omega,fun e=>?_⟩;have:1≤y.vp.ownBlock.toList.count j+(y.ps.flatMap Au.blocks).count j:=by omega
   exact ⟨Or.inl this,hold this⟩
 have hmap:((y.ps.set k z).map fun z=>Value.pointer (some ⟨z.p,0,none⟩))=y.ps.map fun z=>Value.pointer (some ⟨z.p,0,none⟩):=by
  apply List.ext_getElem
  ·simp
  ·intro i i1 i2;simp only [List.getElem_map,List.getElem_set];split
   ·rename_i e;subst e;rfl
   ·rfl
 have hkN:∀j∈(y.ps[k]).blocks,1≤(y.ps.flatMap Au.blocks).count j:=fun j hj=>by
  have a1:=Ak.1 hj;have a2:=h1k j;omega
 have hkB:∀j∈(y.ps[k]).blocks,j∈y.blocks:=fun j hj=>Ak.2 (by rw [Ah.count];have:=hkN j hj;omega)
 have hNL:∀j∈Ah.blocks {y with vp:=y.vp,ps:=y.ps.set k z},j∈y.blocks∨w.heap.size≤j:=fun j hj=>by
  have a0:=Ak.1 hj;rw [Ah.count] at a0;simp only at a0;by_cases e:1≤y.vp.ownBlock.toList.count j+((y.ps.set k z).flatMap Au.blocks).count j
  ·exact (((hcase j).2 e).1).imp (fun e=>Ak.2 (by rw [Ah.count];omega)) id
  ·exact Or.inl (Ak.2 (by rw [Ah.count];omega))
 refine ⟨z,h.pl (y.ps[k]).blocks bw (fun j hj=>by have:=hkN j hj;omega) y.vp (y.ps.set k z) ?_ ?_ (by simpa using h.1.2.2.2.2.2.2.2.2.1) (fun j=>(hcase j).1) (fun j hj=>(hcase j).2 hj) (fun z' hz=>?_)⟩
 ·exact h.1.1.but bw (fun e => by
    have a1 := hkN _ e
    have a2 := hle y.a
    have a3 := GS y.a
    omega)
 ·rw [hmap,List.length_set]
  exact AY h.1.2.2.2.2.2.2.2.1 bw (fun g hg e => by
    have a1 := hkN _ e
    have a2 := hle g
    have a3 : 1 ≤ y.vp.ownBlock.toList.count g := Ak.1 (by simp [hg])
    omega)
 ·obtain ⟨i,hi,rfl⟩:=List.mem_iff_getElem.1 hz;have hi':i<y.ps.length:=by simpa using hi
  by_cases hik:k=i
  ·subst hik;simp only [List.getElem_set_self];have hA:∀j∈Ah.blocks {y with vp:=y.vp,ps:=y.ps.set k z},j∈M∨w.heap.size≤j:=fun j hj=>(hNL j hj).imp (fun e=>h.2.2.1 j e) id
   have hold:=(h.1.app hA).2.2.2.2.2.2.2.2.2 _ (jJ hk);refine ⟨q2,hold.2.1,q3,q4,q5,q6,?_,fun g hg=>(q7 g hg).1⟩;rcases hhas with rfl|⟨q,c,B,E,hgn,rfl,⟨vB,vE,⟨⟨h0,h1,h2,h3,h4,h5⟩,h6,h7,h8,h9,h10⟩,r1,r2,r3⟩,hok,hW⟩
   ·obtain ⟨hgo,hho⟩:=hold.2.2.2.2.2.2.1;exact ⟨hgo,hho.masks bw (fun j hj=>Or.inl (jU _ (h.2.2.1 j (hkB j hj))))⟩
   ·have hout:∀j,w0.heap.size≤j→j∉Ah.blocks {y with vp:=y.vp,ps:=y.ps.set k z}++M:=fun j hj e=>by
     have hM:∀m∈M,m<w.heap.size:=h.2.1;rcases jT.1 e with e|e
     ·have a0:=Ak.1 e;rw [Ah.count] at a0;simp only at a0;have a1:=EJ lt1 (show w.heap.size≤j by omega);have a2:=EJ lt2 (show w.heap.size≤j by omega);have a3:=hfl j;have a4:=hzb j;have a5:got'.ownBlock.toList.count j=0:=by rw [hgn];simp
      have a6:=F9 (show y.a≠j by omega);have a7:=F9 (show y.q≠j by omega);have a8:=F9 (show (y.ps[k]).p≠j by omega);have a9:=EJ lt3 (show w.heap.size≤j by omega);have a10:=EJ lt4 (show w.heap.size≤j by omega);omega
     ·have:=hM j e;omega
    have hqo:=hout q r1
    exact ⟨hg,Or.inr ⟨q,c,B,E,rfl,⟨vB,vE,⟨Bn.2 ⟨h0,hqo⟩,Bn.2 ⟨h1,hqo⟩,Bn.2 ⟨h2,hqo⟩,Bn.2 ⟨h3,hqo⟩,Bn.2 ⟨h4,hqo⟩,Bn.2 ⟨h5,hqo⟩⟩,Bn.2 ⟨h6,hqo⟩,Bn.2 ⟨h7,hqo⟩,Bn.2 ⟨h8,hqo⟩,Ap.masks h9 (fun g hg=>hout g (r2 g hg)),Ap.masks h10 (fun g hg=>hout g (r3 g hg))⟩,hok,hW⟩⟩
  ·simp only [List.getElem_set_ne hik];refine h.others _ bw hkB _ hNL _ (jJ hi') (fun j hj hjN=>?_);have b1:=MJ Au.blocks j y.ps i k hi' hk (Ne.symm hik);have b2:=Ak.1 hj;have b3:=Ak.1 hjN;have b4:=hle j;omega
theorem AM.unchangedQ {base:Nat} {M:List Nat} {y:Ah} {w w':World} (h:AM base M y w) (b:Aa w w'):B9 base M y w w' y:=by
 refine ⟨[],[],Ab.of_bel b,by simp,rfl,h.2.2.2.1,fun j hj=>⟨Or.inl hj,jN (h.2.1 j (h.2.2.1 j hj)) b.size⟩,by simp,?_,by omega⟩;exact (h.1.app (fun j hj=>Or.inl (h.2.2.1 j hj))).but (N:=[]) (Ab.of_bel b) (by simp) (by simp)
theorem AM.unchanged {base:Nat} {M:List Nat} {y:Ah} {w w':World} (h:AM base M y w) (hev:y.even) (b:Aa w w'):El base M y w w':=⟨y,h.unchangedQ b,hev⟩
theorem AM.thenE {base:Nat} {M:List Nat} {y y1:Ah} {P:Ah→Prop} {w w1 w2:World} (h:AM base M y w) (hr:B9 base M y w w1 y1) (hg:y1.g=y.g) (hn:∀M',AM base M' y1 w1→∃y2,B9 base M' y1 w1 w2 y2∧P y2):∃y2,B9 base M y w w2 y2∧P y2:=by
 obtain ⟨N,K,hb,hN,ha,hnd,hnew,hK,hat, -⟩:=hr;have hyM:∀j∈y1.blocks,j∈M∨w.heap.size≤j:=fun j hj=>(hnew j hj).1.imp (h.2.2.1 j) id
 have hD:AM base (y1.blocks++(K++M)) y1 w1:=by
  refine ⟨hat,fun k hk=>?_,fun j hj=>jg _ hj,hnd,by rw [hg];exact h.2.2.2.2⟩;rcases jT.1 hk with hk|hk
  ·exact (hnew k hk).2
  ·rcases jT.1 hk with hk|hk
   ·exact (hK k hk).2
   ·exact jN (h.2.1 k hk) hb.size
 obtain ⟨y2,⟨N2,K2,hb2,hN2,ha2,hnd2,hnew2,hK2,hat2,hg2⟩,hP⟩:=hn _ hD;have hs1:=hb.size;have hs2:=hb2.size;refine ⟨y2,⟨y.blocks,K2++(y1.blocks++K),?_,fun _ hj=>hj,ha2.trans ha,hnd2,fun j hj=>⟨?_,(hnew2 j hj).2⟩,fun j hj=>?_,hat2.of_eq (by simp [List.append_assoc]),by omega⟩,hP⟩
 ·have b1:Ab (y.blocks++N2) w w1:=hb.mono (fun k hk=>Or.inl (jg _ (hN k hk)));have b2:Ab (y.blocks++N2) w1 w2:=hb2.mono (fun k hk=>Or.inl (jU _ hk))
  exact (b1.trans b2).mono (fun k hk => by
    rcases jT.1 hk with hk | hk
    · exact Or.inl hk
    · exact (hnew k (hN2 k hk)).1)
 ·rcases (hnew2 j hj).1 with e|e
  ·exact (hnew j e).1
  ·exact Or.inr (by omega)
 ·rcases jT.1 hj with hj|hj
  ·refine ⟨?_,(hK2 j hj).2⟩;rcases (hK2 j hj).1 with e|e
   ·rcases jT.1 e with e|e
    ·exact hyM j e
    ·rcases jT.1 e with e|e
     ·exact (hK j e).1
     ·exact Or.inl e
   ·exact Or.inr (by omega)
  ·rcases jT.1 hj with hj|hj
   ·exact ⟨hyM j hj,jN (hnew j hj).2 hs2⟩
   ·exact ⟨(hK j hj).1,jN (hK j hj).2 hs2⟩
theorem AM.then {base:Nat} {M:List Nat} {y y1 y2:Ah} {w w1 w2:World} (h:AM base M y w) (hr:B9 base M y w w1 y1) (hg:y1.g=y.g) (hn:∀M',AM base M' y1 w1→B9 base M' y1 w1 w2 y2):B9 base M y w w2 y2:=by
 obtain ⟨y3,h3,rfl⟩:=h.thenE (P:=fun y3=>y3=y2) hr hg (fun M' hD=>⟨y2,hn M' hD,rfl⟩);exact h3
theorem AM.later {base:Nat} {M:List Nat} {y:Ah} {w w':World} (h:AM base M y w) (b:Aa w w'):AM base M y w':=
 ⟨h.1.but (N:=[]) (Ab.of_bel b) (by simp) (by simp),fun k hk=>jN (h.2.1 k hk) b.size,h.2.2.1,h.2.2.2⟩
theorem B9.from {base:Nat} {M:List Nat} {y y':Ah} {w wx w1:World} (h:B9 base M y wx w1 y') (b:Aa w wx):B9 base M y w w1 y':=by
 obtain ⟨N,K,h1,h2,h3,h4,h5,h6,h7,h8⟩:=h;exact ⟨N,K,(Ab.of_bel b).trans h1,h2,h3,h4,fun j hj=>⟨(h5 j hj).1.imp id (fun e=>jX b.size e),(h5 j hj).2⟩,fun j hj=>⟨(h6 j hj).1.imp id (fun e=>jX b.size e),(h6 j hj).2⟩,h7,h8⟩
def Lk (M:List Nat) (wx w1:World):Prop:=∀(a:Addr) (v:Value),a.block∉M→wx.cell? a=some v→w1.cell? a=some v
theorem AM.lk {base:Nat} {M:List Nat} {y y':Ah} {wx w1:World} (h:AM base M y wx) (hr:B9 base M y wx w1 y'):Lk M wx w1:=fun a v ha hv=>by
 obtain ⟨N,K,h1,h2, -⟩:=hr;exact h1.cell hv (fun e=>ha (h.2.2.1 _ (h2 _ e)))
theorem AM.prog {base:Nat} {M:List Nat} {y:Ah} {w w1:World} (h:AM base M y w) (N:List Nat) (hb:Ab N w w1) (hN:∀j∈N,j∈y.svp.own y.q) (L':List Nat) (pp':List (Nat×AF×List Nat)) (K:List Nat) (hK:∀j∈K,(j∈M∨w.heap.size≤j)∧j<w1.heap.size) (hS:AG (K++M) y.q ⟨y.c,y.B,y.g,L',pp'⟩ w1)
  (hnew:∀j,1≤L'.count j+(Bh pp').count j→(1≤y.L.count j+(Bh y.pp).count j∨w.heap.size≤j)∧j<w1.heap.size):B9 base M y w w1 {y with L:=L',pp:=pp'}:=by
 have hle:=h.le;obtain ⟨lt1,lt2,lt3,lt4⟩:=h.lt;obtain ⟨m1,m2,m3,m4⟩:=h.mem;have hsz:=hb.size;have hin:=hS.inM;have hnd:=DK hS.nodup;have hoc:=FZ ⟨y.c,y.B,y.g,L',pp'⟩ y.q;simp only at hoc;have hcnt:=Ah.count {y with L:=L',pp:=pp'};simp only at hcnt;have hoc0:=FZ y.svp y.q;simp only [Ah.svp] at hoc0
 have hN1:∀j∈N,1≤[y.q].count j+y.L.count j+(Bh y.pp).count j:=fun j hj=>by
  have a1:=Ak.1 (hN j hj);have a2:=hoc0 j;simp only [Ah.svp] at a1;omega
 have hNb:∀j∈N,j∈y.blocks:=fun j hj=>Ak.2 (by rw [Ah.count];have:=hN1 j hj;omega)
 have hb2:∀j∈Ah.blocks {y with L:=L',pp:=pp'},(j∈y.blocks∨w.heap.size≤j)∧j<w1.heap.size:=fun j hj=>by
  have a0:=Ak.1 hj;rw [hcnt] at a0;by_cases hv:1≤L'.count j+(Bh pp').count j
  ·exact ⟨(hnew j hv).1.imp (fun e=>Ak.2 (by rw [Ah.count];omega)) id,(hnew j hv).2⟩
  ·have:j∈y.blocks:=Ak.2 (by rw [Ah.count];omega);exact ⟨Or.inl this,jN (h.2.1 j (h.2.2.1 j this)) hsz⟩
 have hA:∀j∈Ah.blocks {y with L:=L',pp:=pp'}++K,j∈M∨w.heap.size≤j:=fun j hj=>(jT.1 hj).elim (fun e=>(hb2 j e).1.imp (h.2.2.1 j) id) (fun e=>(hK j e).1)
 have hNN:∀j∈N,j∈Ah.blocks {y with L:=L',pp:=pp'}++(K++M)∨w.heap.size≤j:=fun j hj=>Or.inl (jU _ (jU _ (h.2.2.1 j (hNb j hj))))
 have hout:∀j,1≤[y.a].count j+y.vp.ownBlock.toList.count j+(y.ps.flatMap Au.blocks).count j→j∉N:=fun j hj e=>by
  have a1:=hN1 j e;have a2:=hle j;omega
 obtain ⟨h1,h2,h3,h4,h5,h6,h7,h8,h9,h10⟩:=(h.1.app hA).of_eq (List.append_assoc _ _ _);have hm:Aa (Ay (Ah.blocks {y with L:=L',pp:=pp'}++(K++M)) w) (Ay (Ah.blocks {y with L:=L',pp:=pp'}++(K++M)) w1):=hb.mono hNN;refine ⟨N,K,hb,hNb,rfl,List.nodup_iff_count.2 fun a=>?_,hb2,hK,⟨h1.but hb (hout _ (by have:=GS y.a;omega)),?_,h3.later hm,h4,h5,h6,h7.later hm,AY h8 hb (fun g hg=>hout g (by have:=Ak.1 (show g∈y.vp.ownBlock.toList by simp [hg]);omega)),h9,fun z hz=>(h10 z hz).but hb hNN (fun j hj=>hout j ?_)⟩,by show y.g≤y.g+1;omega⟩
 ·rw [hcnt];have a1:=hle a;have a2:=hnd a;have a3:=hoc a;by_cases hv:1≤L'.count a+(Bh pp').count a
  ·rcases (hnew a hv).1 with e|e
   ·omega
   ·have b1:=F9 (show y.a≠a by omega);have b2:=EJ lt1 e;have b3:=EJ lt2 e;omega
  ·omega
 ·refine hS.wide (fun j hj=>jU _ hj) (fun j hj=>Or.inl ?_);rcases jT.1 hj with hj|hj
  ·have a0:=Ak.1 hj;rw [hcnt] at a0;by_cases hv:1≤L'.count j+(Bh pp').count j
   ·exact hin j (Ak.2 (by have:=hoc j;omega))
   ·exact jU _ (h.2.2.1 j (Ak.2 (by rw [Ah.count];omega)))
  ·exact hj
 ·have a1:=FL Au.blocks j y.ps z hz;have a2:=Ak.1 hj;omega
theorem AM.planeP {base:Nat} {M:List Nat} {y:Ah} {w w1:World} {n:Nat} {p':AF} {e:Ending} (h:AM base M y w) (hn:n<y.pp.length) (hr:Ml M y.q y.svp n hn p' w e w1):∃R',B9 base M y w w1 {y with pp:=y.pp.set n (y.pp[n].1,p',R')}:=by
 obtain ⟨-,R',hR,hb,hS⟩:=hr;obtain ⟨lt1,lt2,lt3,lt4⟩:=h.lt;have hsz:=hb.size;have hone:=fun a=>JW hn a
 have hoc0:=FZ y.svp y.q;simp only [Ah.svp] at hoc0;have hset:=fun a=>OH a (y.pp[n].1,p',R') y.pp n hn
 have hsvp:y.svp.ps[n]=y.pp[n]:=rfl;refine ⟨R',h.prog _ hb (fun j hj=>Ak.2 ?_) y.L _ R' (fun j hj=>⟨?_,(hR j hj).2⟩) hS (fun j hj=>?_)⟩
 ·have a1:=Ak.1 hj;have a2:=hone j;have a3:=hoc0 j;simp only [Ah.svp] at a1 ⊢;omega
 ·rcases (hR j hj).1 with e|e
  ·refine Or.inl (h.2.2.1 j (Ak.2 ?_));rw [Ah.count];have a1:=hone j;have a2:1≤(y.pp[n].1::y.pp[n].2.2).count j:=Ak.1 (jW _ e);omega
  ·exact Or.inr e
 ·have a1:=hset j;have a2:=hone j;by_cases hL:1≤y.L.count j+(Bh y.pp).count j
  ·refine ⟨Or.inl hL,?_⟩;by_cases e:1≤y.L.count j
   ·have:=lt3 j (Ak.2 e);omega
   ·have:=lt4 j (Ak.2 (by omega));omega
  ·have a3:1≤(y.pp[n].1::R').count j:=by
    show 1≤((y.pp[n].1,p',R').1::(y.pp[n].1,p',R').2.2).count j;omega
   rcases ja.1 (Ak.2 a3) with e|e
   ·have a4:1≤(y.pp[n].1::y.pp[n].2.2).count j:=Ak.1 (by rw [e];exact List.mem_cons_self)
    omega
   ·have:=hR j e
    refine ⟨?_,this.2⟩
    rcases this.1 with e2|e2
    ·have a4:1≤(y.pp[n].1::y.pp[n].2.2).count j:=Ak.1 (jW _ e2)
     omega
    ·exact Or.inr e2
theorem AM.joinP {base:Nat} {M:List Nat} {y:Ah} {w w1:World} {fm:Nat} {e:Ending} (h:AM base M y w) (hr:Oz M y.q y.svp fm w e w1):e= .returned (.tuple #[.int .i64 (y.pp.length:Int),.int .i64 0])∧∃p L',B9 base M y w w1 {y with L:=L',pp:=y.pp++[(p,DX fm,[])]}:=by
 obtain ⟨p,L',he,hb,⟨hp1,hp2⟩,hL,hS⟩:=hr;obtain ⟨lt1,lt2,lt3,lt4⟩:=h.lt;have hsz:=hb.size;have hoc0:=FZ y.svp y.q;simp only [Ah.svp] at hoc0
 have e2:∀a,(Bh (y.pp++[(p,DX fm,[])])).count a=(Bh y.pp).count a+[p].count a:=fun a=>by
  unfold Bh;rw [List.flatMap_append,List.count_append];rfl
 have hLy:y.svp.L=y.L:=rfl;refine ⟨he,p,L',h.prog _ hb (fun j hj=>Ak.2 ?_) L' _ (p::L') (fun j hj=>?_) hS (fun j hj=>?_)⟩
 ·have a1:=Ak.1 hj;have a3:=hoc0 j
  have a4:(y.q::y.L).count j=[y.q].count j+y.L.count j:=by
   have:y.q::y.L=[y.q]++y.L:=rfl;rw [this,List.count_append]
  rw [hLy] at a1;simp only [Ah.svp] at a1 ⊢;omega
 ·rcases ja.1 hj with e|hj
  ·rw [e];exact ⟨Or.inr hp1,hp2⟩
  ·refine ⟨(hL j hj).1.imp (fun e=>h.2.2.1 j (Ak.2 ?_)) id,(hL j hj).2⟩;rw [Ah.count];have:=Ak.1 (show j∈y.L from e);omega
 ·rw [e2] at hj;by_cases hold:1≤y.L.count j+(Bh y.pp).count j
  ·refine ⟨Or.inl hold,?_⟩;by_cases e:1≤y.L.count j
   ·have:=lt3 j (Ak.2 e);omega
   ·have:=lt4 j (Ak.2 (by omega));omega
  ·by_cases hj2:j∈L'
   ·refine ⟨(hL j hj2).1.imp (fun e=>?_) id,(hL j hj2).2⟩;have:=Ak.1 (show j∈y.L from e);omega
   ·have a1:L'.count j=0:=jZ fun e2=>hj2 (jb.1 e2)
    have:j∈[p]:=Ak.2 (by omega);rw [jP.1 this];exact ⟨Or.inr hp1,hp2⟩
def O3 (base:Nat) (M:List Nat) (y:Ah) (w wx:World) (e:Ending) (w1:World):Prop:=e= .returned (.int .i64 0)∧Lk M wx w1∧∃pp',B9 base M y w w1 {y with pp:=pp'}∧pp'.length=y.pp.length
theorem AM.receive {base:Nat} {M:List Nat} {y:Ah} {w:World} (h:AM base M y w) {n:Nat} (hn:n<y.pp.length) (t:ByteArray) (ht:t.size≤1099511627776) (wx:World) (b:Aa w wx):
  Calls Tryz.prog 31 #[.pointer (some ⟨y.q,0,none⟩),.int .i64 (n:Int),.string t] wx (O3 base M y w wx):=by
 have hD:=h.later b;refine (U8 (x:=y.svp) hD.1.2.1 hD.2.1 hn t ht).mono ?_;intro e w1 hr;obtain ⟨R',hq⟩:=hD.planeP hn hr;exact ⟨hr.1,hD.lk hq,_,hq.from b,by simp⟩
theorem AM.restartP {base:Nat} {M:List Nat} {y:Ah} {w:World} (h:AM base M y w) {n:Nat} (hn:n<y.pp.length) (wx:World) (b:Aa w wx):
  Calls Tryz.prog 78 #[.pointer (some ⟨y.q,0,none⟩),.int .i64 (n:Int)] wx (O3 base M y w wx):=by
 have hD:=h.later b;refine (Wt (x:=y.svp) hD.1.2.1 hD.2.1 hn).mono ?_;intro e w1 hr;obtain ⟨R',hq⟩:=hD.planeP hn hr;exact ⟨hr.1,hD.lk hq,_,hq.from b,by simp⟩
end Go.Proofs.YtpapdkhjdelfcabGreat
