import Derived.Test.YtpapdkhjdelfcabGreatHBH
set_option maxRecDepth 100000
set_option maxHeartbeats 4000000
namespace Go.Proofs.YtpapdkhjdelfcabGreat
open Go.RowKit
def recvG (p:Pln) (l:List UInt8):Pln:=match answP l with
 |none=>p
 |some a=>takeG p a
theorem recvG_ok {p:Pln} (h:p.OK) (l:List UInt8):(recvG p l).OK:=by
 unfold recvG;split
 ·exact h
 ·rename_i a ha;exact takeG_ok h (AnsR.of ha)
def PlTo (M:List Nat) (q:Nat) (R:List Nat) (p':Pln) (w w':World):Prop:=But (q::R) w w'∧∃N R',(∀k∈N,w.heap.size≤k)∧(∀k∈R',k∈R∨k∈N)∧PlAt (N++M) q p' R' w'
theorem PlTo.bel {M:List Nat} {q:Nat} {R:List Nat} {p:Pln} {w w':World} (h:PlAt M q p R w) (k:Bel w w'):PlTo M q R p w w':=⟨But.of_bel k,[],R,by simp,fun k hk=>Or.inl hk,by simpa using h.later k⟩
theorem takeG_stay {p:Pln} {a:Ans} (hk:a.1=1) (hu:¬useP p.fm p.g p.cg p.cf p.cp p.T a):takeG p a=p:=by
 unfold takeG;rw [if_neg (by rw [hk];simp),if_neg hu]
theorem takeG_lay {p:Pln} {a:Ans} (hk:a.1=1) (hu:useP p.fm p.g p.cg p.cf p.cp p.T a) (hl:(newT p.cg p.cf p.cp p.T a).length≠(com1 p.cg p.cf p.cp p.T a).2.2.1):takeG p a={p with cg:=(com1 p.cg p.cf p.cp p.T a).1,cf:=(com1 p.cg p.cf p.cp p.T a).2.1,cp:=(com1 p.cg p.cf p.cp p.T a).2.2.1,T:=newT p.cg p.cf p.cp p.T a,nf:=false}:=by
 unfold takeG;rw [if_neg (by rw [hk];simp),if_pos hu,if_neg hl]
theorem takeG_new {p:Pln} {a:Ans} {c2:Cfg} {B2:List BK} {E2:List EI} (hk:a.1=1) (hu:useP p.fm p.g p.cg p.cf p.cp p.T a) (hl:(newT p.cg p.cf p.cp p.T a).length=(com1 p.cg p.cf p.cp p.T a).2.2.1) (hi:imageP (thB (newT p.cg p.cf p.cp p.T a))=some ((com1 p.cg p.cf p.cp p.T a).2.1,(com1 p.cg p.cf p.cp p.T a).1,c2,B2,E2)):takeG p a={p.clear with g:=(com1 p.cg p.cf p.cp p.T a).1,c:=c2,B:=B2,E:=E2}:=by
 unfold takeG;rw [if_neg (by rw [hk];simp),if_pos hu,if_pos hl,hi];simp
theorem takeG_clear {p:Pln} {a:Ans} (hk:a.1=1) (hu:useP p.fm p.g p.cg p.cf p.cp p.T a) (hl:(newT p.cg p.cf p.cp p.T a).length=(com1 p.cg p.cf p.cp p.T a).2.2.1) (hi:∀c2 B2 E2,imageP (thB (newT p.cg p.cf p.cp p.T a))≠some ((com1 p.cg p.cf p.cp p.T a).2.1,(com1 p.cg p.cf p.cp p.T a).1,c2,B2,E2)):takeG p a=p.clear:=by
 unfold takeG;rw [if_neg (by rw [hk];simp),if_pos hu,if_pos hl];cases hI:imageP (thB (newT p.cg p.cf p.cp p.T a)) with
 |none=>rfl
 |some y=>
  obtain ⟨f,g2,c2,B2,E2⟩:=y;simp only;rw [if_neg];rintro ⟨e1,e2⟩;rw [e1,e2] at hI;exact hi c2 B2 E2 hI
theorem takep_pl {M:List Nat} {q:Nat} {p:Pln} {vP vE vT:Value} {R:List Nat} {a:Ans} {w w':World} (h1:q∈M) (h2:∀k∈R,k∈M) (hM:∀k∈M,k<w.heap.size) (hg:gl vT=R) (hP:PoolAt (mask M w) vP p.B) (hE:EIAt (mask M w) vE p.E) (hk:a.1=1)
  (h:RTakeP q p.fm p.g p.c vP vE p.cg p.cf p.cp vT p.nf p.T a w (.returned (.tuple #[])) w'):PlTo M q R (takeG p a) w w':=by
 obtain ⟨-,hB,hres⟩:=h;rw [hg] at hB;refine ⟨hB,?_⟩;rcases hres with ⟨hu,hX,hT⟩|⟨hu,hlen,v',hX,hT,hrow⟩|⟨hu,hlen,hfin⟩
 ·rw [takeG_stay hk hu];obtain ⟨r1,r2⟩:=PlAt.rows h1 h2 hP hE hB [] (by simp);exact ⟨[],R,by simp,fun k hk=>Or.inl hk,h1,fun k hk=>h2 k hk,vP,vE,vT,hX,r1,r2,hT,hg⟩
 ·rw [takeG_lay hk hu hlen];obtain ⟨r1,r2⟩:=PlAt.rows h1 h2 hP hE hB ((gl v').filter fun k=>decide (w.heap.size≤k)) (fun k hk=>by simpa using (List.mem_filter.1 hk).2)
  have hin:∀k∈gl v',k∈R∨k∈(gl v').filter fun k=>decide (w.heap.size≤k):=fun k hk=>by
   have hk2:v'.ownBlock=some k:=by unfold gl at hk;exact Option.mem_toList.1 hk
   rcases hrow k hk2 with h|h
   ·exact Or.inl (by rw [←hg];exact h)
   ·exact Or.inr (List.mem_filter.2 ⟨hk,by simpa using h⟩)
  refine ⟨_,gl v',fun k hk=>by simpa using (List.mem_filter.1 hk).2,hin,List.mem_append_right _ h1,fun k hk=>?_,vP,vE,v',hX,r1,r2,hT,rfl⟩;rcases hin k hk with h|h
  ·exact List.mem_append_right _ (h2 k h)
  ·exact List.mem_append_left _ h
 ·rcases hfin with ⟨c2,B2,E2,vP2,vE2,hi,hX,hoP,hoE⟩|⟨hi,hX⟩
  ·rw [takeG_new hk hu hlen hi];exact ⟨[],[],by simp,fun k hk=>(by cases hk),h1,fun k hk=>(by cases hk),vP2,vE2,.slice none 0 0,hX,own_masked hoP hM,own_maskedE hoE hM,World.ownsRow_nil _ _ _ _,rfl⟩
  ·rw [takeG_clear hk hu hlen hi];obtain ⟨r1,r2⟩:=PlAt.rows h1 h2 hP hE hB [] (by simp);exact ⟨[],[],by simp,fun k hk=>(by cases hk),h1,fun k hk=>(by cases hk),vP,vE,.slice none 0 0,hX,r1,r2,World.ownsRow_nil _ _ _ _,rfl⟩
theorem take_pl {M:List Nat} {q:Nat} {p:Pln} {vP vE vT:Value} {R:List Nat} {a:Ans} {w w':World} (h1:q∈M) (h2:∀k∈R,k∈M) (hM:∀k∈M,k<w.heap.size) (hg:gl vT=R) (hP:PoolAt (mask M w) vP p.B) (hE:EIAt (mask M w) vE p.E)
  (h:RTake q p.fm p.g p.c vP vE p.cg p.cf p.cp vT p.nf p.T a w (.returned (.tuple #[])) w'):PlTo M q R (takeG p a) w w':=by
 obtain ⟨-,hB,hres⟩:=h;rw [hg] at hB;rcases hres with ⟨hk,hX,hT⟩|⟨hk,w0,hb,hR⟩
 ·have hT1:takeG p a={p with nf:=a.1==2}:=by unfold takeG;rw [if_pos hk]
  rw [hT1];obtain ⟨r1,r2⟩:=PlAt.rows h1 h2 hP hE hB [] (by simp);exact ⟨hB,[],R,by simp,fun k hk=>Or.inl hk,h1,fun k hk=>h2 k hk,vP,vE,vT,hX,r1,r2,hT,hg⟩
 ·have hbm:Bel (mask M w) (mask M w0):=(But.of_bel (M:=M) hb);obtain ⟨b1,N,R',n1,n2,n3⟩:=takep_pl h1 h2 (fun k hk=>Nat.lt_of_lt_of_le (hM k hk) hb.size) hg (hP.later hbm) (hE.later hbm) hk hR;exact ⟨(But.of_bel hb).trans b1,N,R',fun k hk=>Nat.le_trans hb.size (n1 k hk),n2,n3⟩
end Go.Proofs.YtpapdkhjdelfcabGreat
namespace Go.Proofs.YtpapdkhjdelfcabGreat
open Go.RowKit
def DpS (s:Nat) (d:Int) (q:Nat) (w:World):Prop:=Calls Tryz.prog 59 #[.pointer (some ⟨s,0,none⟩),.int .i64 d] w (RQ w (.pointer (some ⟨q,0,none⟩)))
def DpN (s:Nat) (d:Int) (w:World):Prop:=Calls Tryz.prog 59 #[.pointer (some ⟨s,0,none⟩),.int .i64 d] w (RQ w (.pointer none))
theorem dp_of {s:Nat} {d:Int} {vL:Value} {ps:List Nat} {w:World} (c9:w.cell? ⟨s,9,none⟩=some vL) (hL:PlRow w vL ps):(∀n (h:n<ps.length),d=(n:Int)→DpS s d ps[n] w)∧((d<0∨(ps.length:Int)≤d)→DpN s d w):=by
 have H:=dataplane_is s d vL ps w c9 hL;refine ⟨fun n h e=>?_,fun h=>?_⟩
 ·subst e
  have:planeV ps (n:Int)= .pointer (some ⟨ps[n],0,none⟩):=by
   unfold planeV;rw [if_pos (by omega),Int.toNat_natCast,List.getElem?_eq_getElem h];rfl
  rw [this] at H;exact H
 ·have:planeV ps d= .pointer none:=by
   unfold planeV;by_cases hd:0≤d
   ·rw [if_pos hd,List.getElem?_eq_none (by omega)];rfl
   ·rw [if_neg hd]
  rw [this] at H
  exact H
def RRecvP (M:List Nat) (q:Nat) (R:List Nat) (p':Pln) (w:World) (e:Ending) (w':World):Prop:=e= .returned (.int .i64 0)∧PlTo M q R p' w w'
theorem receive_pl {M:List Nat} {s q:Nat} {d:Int} {p:Pln} {R:List Nat} {t:ByteArray} {w:World} (hd:DpS s d q w) (h:PlAt M q p R w) (hok:p.OK) (hM:∀k∈M,k<w.heap.size) (ht:t.size≤1099511627776):
  Calls Tryz.prog 31 #[.pointer (some ⟨s,0,none⟩),.int .i64 d,.string t] w (RRecvP M q R (recvG p t.data.toList) w):=by
 have h0:=h;obtain ⟨h1,h2,vP,vE,vT,hX,hP,hE,hT,hg⟩:=h;refine (receive_is s q d t p.fm p.g p.c vP vE p.cg p.cf p.cp vT p.nf p.T w hd hX hT hok.tlen (fun x hx=>by have:=(hok.T x hx).2;omega) (by have:=hok.fm.2;omega) ht).mono ?_;rintro e w' ⟨rfl,hres⟩;refine ⟨rfl,?_⟩;unfold recvG;cases ha:answP t.data.toList with
 |none=>
  rw [ha] at hres;exact PlTo.bel h0 hres
 |some a=>
  rw [ha] at hres;obtain ⟨w0,hb,hR⟩:=hres;have hbm:Bel (mask M w) (mask M w0):=But.of_bel (M:=M) hb;obtain ⟨b1,N,R',n1,n2,n3⟩:=take_pl h1 h2 (fun k hk=>Nat.lt_of_lt_of_le (hM k hk) hb.size) hg (hP.later hbm) (hE.later hbm) hR;exact ⟨(But.of_bel hb).trans b1,N,R',fun k hk=>Nat.le_trans hb.size (n1 k hk),n2,n3⟩
theorem restart_pl {M:List Nat} {s q:Nat} {d:Int} {p:Pln} {R:List Nat} {w:World} (hd:DpS s d q w) (h:PlAt M q p R w):
  Calls Tryz.prog 78 #[.pointer (some ⟨s,0,none⟩),.int .i64 d] w (RRecvP M q R (plnNew p.fm) w):=by
 obtain ⟨h1,h2,vP,vE,vT,hX,hP,hE,hT,hg⟩:=h;refine (restart_is s q d p.fm p.g p.c vP vE p.cg p.cf p.cp vT p.nf w hd hX).mono ?_;rintro e w' ⟨rfl,hB,hX'⟩;exact ⟨rfl,hB.mono (fun k hk=>Or.inl (by simp at hk;subst hk;simp)),[],[],by simp,fun k hk=>(by cases hk),by simpa using PlAt.ofNew hX' h1⟩
theorem tick_pl {M:List Nat} {s q:Nat} {d:Int} {p:Pln} {R:List Nat} {w:World} (hd:DpS s d q w) (h:PlAt M q p R w) (hok:p.OK):
  Calls Tryz.prog 29 #[.pointer (some ⟨s,0,none⟩),.int .i64 d] w (RTxE w (tickB p.g p.fm p.cg p.cf p.T,0)):=by
 obtain ⟨h1,h2,vP,vE,vT,hX,hP,hE,hT,hg⟩:=h;exact tick_is s q d p.fm p.g p.c vP vE p.cg p.cf p.cp vT p.nf p.T w hd hX hT (by have:=hok.tlen;omega) (by have:=hok.g;omega) (by have:=hok.fm.2;omega) (by have:=hok.cg;omega) (by have:=hok.cf;omega)
theorem held_pl {M:List Nat} {s q:Nat} {d:Int} {p:Pln} {R:List Nat} {w:World} (hd:DpS s d q w) (h:PlAt M q p R w):
  Calls Tryz.prog 32 #[.pointer (some ⟨s,0,none⟩),.int .i64 d] w (RHeld w (heldF p.g p.nf)):=by
 obtain ⟨h1,h2,vP,vE,vT,hX,hP,hE,hT,hg⟩:=h;exact held_is s q d p.fm p.g p.c vP vE p.cg p.cf p.cp vT p.nf w hd hX
theorem lookup_pl {M:List Nat} {s q:Nat} {d:Int} {k:ByteArray} {p:Pln} {R:List Nat} {w:World} (hd:DpS s d q w) (h:PlAt M q p R w) (hok:p.OK) (hk:k.size≤4611686018427386000):
  Calls Tryz.prog 33 #[.pointer (some ⟨s,0,none⟩),.int .i64 d,.string k] w (RStrErr w (plOwnF p.g p.c p.B p.E k)):=by
 obtain ⟨h1,h2,vP,vE,vT,hX,hP,hE,hT,hg⟩:=h;exact lookup_is s q d k p.fm p.g p.c vP vE p.cg p.cf p.cp vT p.nf p.B p.E w hd hX (RowAt.unmask hP) (RowAt.unmask hE) (by have:=hok.len;omega) hok.tok hk
end Go.Proofs.YtpapdkhjdelfcabGreat
namespace Go.Proofs.YtpapdkhjdelfcabGreat
open Go.RowKit
theorem own_row_but {M:List Nat} {base:Nat} {e:TypeId} {size:Nat} {w w':World} {v:Value} {n:Nat} {xs:List Value} (h:w.ownsRow base e size v n xs) (k:But M w w') (hm:∀g∈gl v,g∉M):w'.ownsRow base e size v n xs:=by
 refine ⟨h.1,?_⟩;rcases h.2 with h1|⟨g,cap,cur,h1,h2,h3,h4⟩
 ·exact Or.inl h1
 ·refine Or.inr ⟨g,cap,cur,h1,h2,?_,h4⟩;have hg:g∈gl v:=by rw [h1];simp [gl,Value.ownBlock]
  have hlt:g<w.heap.size:=by
   rcases Nat.lt_or_ge g w.heap.size with h|h
   ·exact h
   ·rw [Array.getElem?_eq_none h] at h3;cases h3
  exact (k.block g hlt (hm g hg)).trans h3
structure Svp where
 c:Cfg
 B:List BK
 g:Int
 L:List Nat
 ps:List (Nat×Pln×List Nat)
def blk (ps:List (Nat×Pln×List Nat)):List Nat:=ps.flatMap fun y=>y.1::y.2.2
def Svp.own (x:Svp) (s:Nat):List Nat:=s::(x.L++blk x.ps)
def SvpAt (M:List Nat) (s:Nat) (x:Svp) (w:World):Prop:=∃vL,SvcAt vL M s x.c x.B x.g w∧PlRow w vL (x.ps.map fun y=>y.1)∧gl vL=x.L∧(∀k∈x.L,k∈M)∧(∀y∈x.ps,PlAt M y.1 y.2.1 y.2.2 w∧y.2.1.OK)∧(x.own s).Nodup∧x.ps.length≤4
theorem blk_mem {ps:List (Nat×Pln×List Nat)} {y:Nat×Pln×List Nat} (h:y∈ps):y.1∈blk ps∧∀k∈y.2.2,k∈blk ps:=⟨List.mem_flatMap.2 ⟨y,h,by simp⟩,fun k hk=>List.mem_flatMap.2 ⟨y,h,by simp [hk]⟩⟩
theorem SvpAt.but {M M':List Nat} {s:Nat} {x:Svp} {w w':World} (h:SvpAt M s x w) (k:But M' w w') (hd:∀j∈M',j∉x.own s) (hs:∀j∈M',j∈M∨w.heap.size≤j):SvpAt M s x w':=by
 obtain ⟨vL,h1,h2,h3,h4,h5,h6,h7⟩:=h;refine ⟨vL,h1.but k (fun hm=>hd s hm (by simp [Svp.own])) hs,own_row_but h2 k (fun g hg hm=>hd g hm (by rw [h3] at hg;simp [Svp.own,hg])),h3,h4,fun y hy=>⟨?_,(h5 y hy).2⟩,h6,h7⟩;have hb:=blk_mem hy;exact (h5 y hy).1.but k (fun hm=>hd _ hm (by simp [Svp.own,hb.1])) (fun j hj hm=>hd j hm (by simp [Svp.own,hb.2 j hj])) hs
theorem SvpAt.later {M:List Nat} {s:Nat} {x:Svp} {w w':World} (h:SvpAt M s x w) (k:Bel w w'):SvpAt M s x w':=h.but (M':=[]) (But.of_bel k) (by simp) (by simp)
theorem SvpAt.grow {M:List Nat} {s:Nat} {x:Svp} {w:World} (h:SvpAt M s x w) (N:List Nat) (hN:∀k∈N,w.heap.size≤k):SvpAt (N++M) s x w:=by
 obtain ⟨vL,h1,h2,h3,h4,h5,h6,h7⟩:=h;exact ⟨vL,h1.grow N hN,h2,h3,fun k hk=>List.mem_append_right _ (h4 k hk),fun y hy=>⟨(h5 y hy).1.grow N hN,(h5 y hy).2⟩,h6,h7⟩
theorem SvpAt.dp {M:List Nat} {s:Nat} {x:Svp} {w:World} (h:SvpAt M s x w) (d:Int):(∀n (hn:n<x.ps.length),d=(n:Int)→DpS s d x.ps[n].1 w)∧((d<0∨(x.ps.length:Int)≤d)→DpN s d w):=by
 obtain ⟨vL,h1,h2,h3,h4,h5,h6,h7⟩:=h;obtain ⟨_,_,_,_,_,hF,_⟩:=h1;have:=dp_of (s:=s) (d:=d) hF.2.1 h2;refine ⟨fun n hn e=>?_,fun k=>this.2 (by simpa using k)⟩;have h8:=this.1 n (by simpa using hn) e;simpa using h8
theorem SvpAt.pl {M:List Nat} {s:Nat} {x:Svp} {w:World} (h:SvpAt M s x w) {n:Nat} (hn:n<x.ps.length):PlAt M x.ps[n].1 x.ps[n].2.1 x.ps[n].2.2 w∧x.ps[n].2.1.OK:=by
 obtain ⟨vL,h1,h2,h3,h4,h5,h6,h7⟩:=h;exact h5 _ (List.getElem_mem hn)
end Go.Proofs.YtpapdkhjdelfcabGreat
namespace Go.Proofs.YtpapdkhjdelfcabGreat
open Go.RowKit
theorem mask_ext {M M':List Nat} {w:World} (h1:∀j∈M,j∈M') (h2:∀j∈M',j∈M∨w.heap.size≤j):mask M' w=mask M w:=by
 unfold mask;congr 1;apply Array.ext
 ·simp
 ·intro i a b;have hi:i<w.heap.size:=by simpa using a
  simp only [Array.getElem_mapIdx];by_cases hm:i∈M
  ·simp [hm,h1 i hm]
  ·have:i∉M':=fun e=>(h2 i e).elim hm (fun k=>by omega)
   simp [hm,this]
theorem RowAt.narrow {M M':List Nat} {w:World} {v:Value} {n:Nat} {xs:List Value} (h:RowAt (mask M w) v n xs) (h1:∀j∈M',j∈M):RowAt (mask M' w) v n xs:=by
 rcases h with h|⟨g,cap,hv,hn,hg,hc⟩
 ·exact Or.inl h
 ·refine Or.inr ⟨g,cap,hv,hn,by rw [mask_size] at hg ⊢;exact hg,fun j u hu=>?_⟩;obtain ⟨a,b⟩:=mask_cell.1 (hc j u hu);exact mask_cell.2 ⟨a,fun e=>b (h1 _ e)⟩
theorem PlAt.wide {M M':List Nat} {q:Nat} {p:Pln} {R:List Nat} {w:World} (h:PlAt M q p R w) (h1:∀j∈M,j∈M') (h2:∀j∈M',j∈M∨w.heap.size≤j):PlAt M' q p R w:=by
 unfold PlAt at *;rw [mask_ext h1 h2];exact ⟨h1 _ h.1,fun k hk=>h1 _ (h.2.1 k hk),h.2.2⟩
theorem PlAt.narrow {M M':List Nat} {q:Nat} {p:Pln} {R:List Nat} {w:World} (h:PlAt M q p R w) (h1:∀j∈M',j∈M) (hq:q∈M') (hR:∀k∈R,k∈M'):PlAt M' q p R w:=by
 obtain ⟨_,_,vP,vE,vT,hX,hP,hE,hT,hg⟩:=h;exact ⟨hq,hR,vP,vE,vT,hX,RowAt.narrow hP h1,RowAt.narrow hE h1,hT,hg⟩
theorem SvcAt.wide {vL:Value} {M M':List Nat} {q:Nat} {c:Cfg} {B:List BK} {g:Int} {w:World} (h:SvcAt vL M q c B g w) (h1:∀j∈M,j∈M') (h2:∀j∈M',j∈M∨w.heap.size≤j):SvcAt vL M' q c B g w:=by
 unfold SvcAt at *;rw [mask_ext h1 h2];exact ⟨h1 _ h.1,h.2⟩
theorem SvcAt.narrow {vL:Value} {M M':List Nat} {q:Nat} {c:Cfg} {B:List BK} {g:Int} {w:World} (h:SvcAt vL M q c B g w) (h1:∀j∈M',j∈M) (hq:q∈M'):SvcAt vL M' q c B g w:=by
 obtain ⟨_,vP,vE,hT,h8,hF,hP,hE⟩:=h;exact ⟨hq,vP,vE,hT,h8,hF,RowAt.narrow hP h1,RowAt.narrow hE h1⟩
theorem SvpAt.wide {M M':List Nat} {s:Nat} {x:Svp} {w:World} (h:SvpAt M s x w) (h1:∀j∈M,j∈M') (h2:∀j∈M',j∈M∨w.heap.size≤j):SvpAt M' s x w:=by
 obtain ⟨vL,a1,a2,a3,a4,a5,a6,a7⟩:=h;exact ⟨vL,a1.wide h1 h2,a2,a3,fun k hk=>h1 _ (a4 k hk),fun y hy=>⟨(a5 y hy).1.wide h1 h2,(a5 y hy).2⟩,a6,a7⟩
theorem SvpAt.inM {M:List Nat} {s:Nat} {x:Svp} {w:World} (h:SvpAt M s x w):∀j∈x.own s,j∈M:=fun j hj=>by
 obtain ⟨vL,a1,a2,a3,a4,a5,a6,a7⟩:=h;unfold Svp.own at hj;rcases List.mem_cons.1 hj with e|hj
 ·rw [e];exact a1.1
 ·rcases List.mem_append.1 hj with hj|hj
  ·exact a4 j hj
  ·obtain ⟨y,hy,hj⟩:=List.mem_flatMap.1 hj;rcases List.mem_cons.1 hj with e|hj
   ·rw [e];exact (a5 y hy).1.1
   ·exact (a5 y hy).1.2.1 j hj
theorem SvpAt.narrow {M M':List Nat} {s:Nat} {x:Svp} {w:World} (h:SvpAt M s x w) (h1:∀j∈M',j∈M) (h2:∀j∈x.own s,j∈M'):SvpAt M' s x w:=by
 obtain ⟨vL,a1,a2,a3,a4,a5,a6,a7⟩:=h;refine ⟨vL,a1.narrow h1 (h2 _ (by simp [Svp.own])),a2,a3,fun k hk=>h2 _ (by simp [Svp.own,hk]),fun y hy=>⟨(a5 y hy).1.narrow h1 (h2 _ ?_) (fun k hk=>h2 _ ?_),(a5 y hy).2⟩,a6,a7⟩
 ·have:=(blk_mem hy).1;simp [Svp.own,this]
 ·have:=(blk_mem hy).2 k hk;simp [Svp.own,this]
theorem SvpAt.nodup {M:List Nat} {s:Nat} {x:Svp} {w:World} (h:SvpAt M s x w):(x.own s).Nodup:=by
 obtain ⟨vL,a1,a2,a3,a4,a5,a6,a7⟩:=h;exact a6
theorem SvpAt.le4 {M:List Nat} {s:Nat} {x:Svp} {w:World} (h:SvpAt M s x w):x.ps.length≤4:=by
 obtain ⟨vL,a1,a2,a3,a4,a5,a6,a7⟩:=h;exact a7
theorem svp_turn {vL:Value} {M:List Nat} {s:Nat} {c:Cfg} {B':List BK} {g':Int} {L:List Nat} {ps:List (Nat×Pln×List Nat)} {w w':World} (h2:PlRow w vL (ps.map fun y=>y.1)) (h3:gl vL=L) (h4:∀k∈L,k∈M) (h5:∀y∈ps,PlAt M y.1 y.2.1 y.2.2 w∧y.2.1.OK) (h6:(s::(L++blk ps)).Nodup) (h7:ps.length≤4) (hs:s∈M) (k:But [s] w w') (hS:SvcAt vL M s c B' g' w'):SvpAt M s ⟨c,B',g',L,ps⟩ w':=by
 have hn:=(List.nodup_cons.1 h6).1;have hM:∀j∈[s],j∈M∨w.heap.size≤j:=fun j hj=>by rw [List.mem_singleton.1 hj];exact Or.inl hs
 refine ⟨vL,hS,own_row_but h2 k (fun g hg hm=>hn ?_),h3,h4,fun y hy=>⟨(h5 y hy).1.but k (fun hm=>hn ?_) (fun j hj hm=>hn ?_) hM,(h5 y hy).2⟩,h6,h7⟩
 ·rw [List.mem_singleton.1 hm,h3] at hg;exact List.mem_append_left _ hg
 ·rw [←List.mem_singleton.1 hm];exact List.mem_append_right _ (blk_mem hy).1
 ·rw [←List.mem_singleton.1 hm];exact List.mem_append_right _ ((blk_mem hy).2 j hj)
def RSvp (M:List Nat) (q:Nat) (x:Svp) (err:Int) (w:World) (e:Ending) (w':World):Prop:=e= .returned (.int .i64 err)∧But [q] w w'∧SvpAt M q x w'
section
variable (M:List Nat) (q:Nat) (c:Cfg) (B:List BK) (g:Int) {L:List Nat} {ps:List (Nat×Pln×List Nat)}
theorem add_v (id:ByteArray) (n:Int) (w:World) (hS:SvpAt M q ⟨c,B,g,L,ps⟩ w) (hM:∀k∈M,k<w.heap.size) (hc:c.OK) (hB:Good B) (hg0:0≤g) (hg1:g≤4611686018427387904):
  Calls Tryz.prog 24 #[.pointer (some ⟨q,0,none⟩),.string id,.int .i64 n] w (RSvp M q ⟨c,addB B id n,if addE B id n=0 then g+1 else g,L,ps⟩ (addE B id n) w):=by
 obtain ⟨vL,h1,h2,h3,h4,h5,h6,h7⟩:=hS;refine (add_is M q c B g id n w h1 hM hc hB hg0 hg1).mono ?_;rintro e w' ⟨rfl,hb,hS'⟩;exact ⟨rfl,hb,svp_turn h2 h3 h4 h5 h6 h7 h1.1 hb hS'⟩
theorem remove_v (id:ByteArray) (w:World) (hS:SvpAt M q ⟨c,B,g,L,ps⟩ w) (hM:∀k∈M,k<w.heap.size) (hc:c.OK) (hB:Good B) (hg0:0≤g) (hg1:g≤4611686018427387904):
  Calls Tryz.prog 95 #[.pointer (some ⟨q,0,none⟩),.string id] w (RSvp M q ⟨c,remB B id,if remE B id=0 then g+1 else g,L,ps⟩ (remE B id) w):=by
 obtain ⟨vL,h1,h2,h3,h4,h5,h6,h7⟩:=hS;refine (remove_is M q c B g id w h1 hM hc hB hg0 hg1).mono ?_;rintro e w' ⟨rfl,hb,hS'⟩;exact ⟨rfl,hb,svp_turn h2 h3 h4 h5 h6 h7 h1.1 hb hS'⟩
theorem set_v (id:ByteArray) (n:Int) (w:World) (hS:SvpAt M q ⟨c,B,g,L,ps⟩ w) (hM:∀k∈M,k<w.heap.size) (hc:c.OK) (hB:Good B) (hg0:0≤g) (hg1:g≤4611686018427387904):
  Calls Tryz.prog 96 #[.pointer (some ⟨q,0,none⟩),.string id,.int .i64 n] w (RSvp M q ⟨c,setB B id n,if setE B id n=0 then g+1 else g,L,ps⟩ (setE B id n) w):=by
 obtain ⟨vL,h1,h2,h3,h4,h5,h6,h7⟩:=hS;refine (set_is M q c B g id n w h1 hM hc hB hg0 hg1).mono ?_;rintro e w' ⟨rfl,hb,hS'⟩;exact ⟨rfl,hb,svp_turn h2 h3 h4 h5 h6 h7 h1.1 hb hS'⟩
theorem gen_v (w:World) (hS:SvpAt M q ⟨c,B,g,L,ps⟩ w):
  Calls Tryz.prog 101 #[.pointer (some ⟨q,0,none⟩)] w fun e w'=>e= .returned (.int .i64 g)∧w=w':=by
 obtain ⟨vL,h1, -⟩:=hS;exact gen_is M q c B g w h1
theorem slots_v (w:World) (hS:SvpAt M q ⟨c,B,g,L,ps⟩ w) (hE:(mkF c B).length≤65536):
  Calls Tryz.prog 25 #[.pointer (some ⟨q,0,none⟩)] w (RTexts w (namesF B (mkF c B))):=by
 obtain ⟨vL,h1, -⟩:=hS;exact slots_is M q c B g w h1 hE
theorem local_v (k:ByteArray) (w:World) (hS:SvpAt M q ⟨c,B,g,L,ps⟩ w) (hE:(mkF c B).length≤65536) (hc:c.OK) (hk:k.size≤4611686018427386000):
  Calls Tryz.prog 103 #[.pointer (some ⟨q,0,none⟩),.string k] w (RStrErr w (localF c B g k)):=by
 obtain ⟨vL,h1, -⟩:=hS;exact local_is M q c B g k w h1 hE hc hk
end
theorem image_v (M:List Nat) (q:Nat) (c:Cfg) (B:List BK) (g:Nat) {L:List Nat} {ps:List (Nat×Pln×List Nat)} (f:Int) (w:World) (hS:SvpAt M q ⟨c,B,(g:Int),L,ps⟩ w) (hE:(mkF c B).length≤65536) (hc:c.OK) (hB:PoolOK B) (hg:g≤4611686018427387904):
  Calls Tryz.prog 99 #[.pointer (some ⟨q,0,none⟩),.int .i64 f] w (RTxE w (simgF f g c B (mkF c B))):=by
 obtain ⟨vL,⟨_,vP,vE,hT,h8,hF,hP,hE'⟩, -⟩:=hS;exact simage_is q f g c vP vE B (mkF c B) w hT h8 (RowAt.unmask hP) (RowAt.unmask hE') hB ((Cfg.ok_iff c).1 hc).1 (mkF_ok c hB) hE hg
theorem serve_v (M:List Nat) (q:Nat) (c:Cfg) (B:List BK) (g:Nat) {L:List Nat} {ps:List (Nat×Pln×List Nat)} (t:ByteArray) (w:World) (hS:SvpAt M q ⟨c,B,(g:Int),L,ps⟩ w) (hE:(mkF c B).length≤65536) (hc:c.OK) (hB:PoolOK B) (hg:g≤4294967296) (ht:t.size≤1099511627776):
  Calls Tryz.prog 30 #[.pointer (some ⟨q,0,none⟩),.string t] w (RTx w (serveB c.formats.toNat g c B (mkF c B) t.data.toList)):=by
 obtain ⟨vL,⟨_,vP,vE,hT,h8,hF,hP,hE'⟩, -⟩:=hS;have hf:=((Cfg.ok_iff c).1 hc).2;exact serve_is q c.formats.toNat g c vP vE B (mkF c B) t w hT (by omega) h8 (RowAt.unmask hP) (RowAt.unmask hE') hB ((Cfg.ok_iff c).1 hc).1 (mkF_ok c hB) hE hg (by omega) ht
end Go.Proofs.YtpapdkhjdelfcabGreat
