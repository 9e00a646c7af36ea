import Derived.Test.YtpapdkhjdelfcabGreatLBC
namespace Go.Proofs.YtpapdkhjdelfcabGreat
open Go.RowKit
set_option maxRecDepth 100000
set_option maxHeartbeats 4000000
theorem Tryz.infoBKS:(Tryz.prog.info? 75).map (fun i=>(i.zero,i.size,i.bytes))=some (some (.agg #[.string ByteArray.empty,.int .i64 0]),2,24):=by kernel_rfl
theorem JB {w w':World} {p base:Nat} {e:TypeId} {size:Nat} {v:Value} {n:Nat} {xs:List Value} (h:w.ownsRow base e size v n xs) (k:Ar p w w') (hp:p<base):w'.ownsRow base e size v n xs:=by
 obtain ⟨h1,h2⟩:=h;refine ⟨h1,?_⟩;rcases h2 with h2|⟨g,cap,cur,hv,hg,hh,r⟩
 ·exact Or.inl h2
 ·exact Or.inr ⟨g,cap,cur,hv,hg,by rw [k.block g (Array.getElem?_eq_some_iff.1 hh).1 (by omega)];exact hh,r⟩
theorem UN (l:List BK) (b:BK):AC (l++[b])=AC l++[.string b.1,.int .i64 b.2]:=by simp [AC]
theorem Ar.grown {p:Nat} {a w w':World} {row:Option Nat} (h:Ar p a w) (hg:w.grownBy w' row) (hr:∀k,row=some k→a.heap.size≤k):Ar p a w':=
 ⟨hg.os.trans h.os,hg.tape.trans h.tape,hg.output.trans h.output,jX h.size hg.size,fun i hi hp=>(hg.block i (jN hi h.size) (fun e=>by have:=hr i e.symm;omega)).trans (h.block i hi hp)⟩
theorem Ar.text {p:Nat} (a:World) {w w':World} {row:Option Nat} {s:ByteArray} {sh:Bool} (ht:Aq w p s sh) (hg:w.grownBy w' row) (hr:∀k,row=some k→a.heap.size≤k) (hp:p<a.heap.size):Aq w' p s sh:=by
 have hne:some p≠row:=fun e=>by have:=hr p e.symm;omega
 have hb:=hg.block p (World.block_lt_of_cell? w ⟨p,0,none⟩ ht.1) hne;exact ⟨(World.cell?_of_block (a:=⟨p,0,none⟩) hb).trans ht.1,(World.cell?_of_block (a:=⟨p,1,none⟩) hb).trans ht.2.1,(World.frozen?_of_block (a:=⟨p,0,none⟩) hb).trans ht.2.2.1,(World.frozen?_of_block (a:=⟨p,1,none⟩) hb).trans ht.2.2.2⟩
def PW (b:BK):Prop:=1≤b.1.size∧b.1.size≤8∧0≤b.2∧b.2≤6
def VT (w:World) (p:Nat) (s0:ByteArray) (e:Ending) (w':World):Prop:=∃(v:Value) (L:List BK) (okb:Bool) (s:ByteArray) (sh:Bool),e= .returned (.tuple #[v,.bool okb])∧Ar p w w'∧Aq w' p s sh∧s.size≤s0.size∧Am w' v L∧L.length≤8∧(∀g,v.ownBlock=some g→w.heap.size≤g)∧(okb=true→sh=false∧AL L)
theorem OB (p:Nat) (s:ByteArray) (sh:Bool) (w:World) (hs:s.size≤maxLen) (ht:Aq w p s sh) (hp:p<w.heap.size):
  Calls Tryz.prog 149 #[.pointer (some ⟨p,0,none⟩)] w (VT w p s):=by
 obtain ⟨i0,hi,hz0,hz1,hz2⟩:=info_parts Tryz.infoBKS;go_enter Tryz.func149,Tryz.ntmps149;go_wp2_with fail;refine (C7 p 1 s sh _ (by decide) (by decide) hs ht).mono ?_;rintro e w1 ⟨v,s1,sh1,rfl,hb1,ht1,n,rfl,h1,h2,h3,h4⟩;have h3':n<256:=by simpa using h3
 clear h3;go_wp2;go_loopg [4,6,7] n.toNat (fun g v ok i wr=>∃(k:Nat) (L:List BK) (x:Bool) (s2:ByteArray) (sh2:Bool),g=n.toNat - k∧k≤n.toNat∧i= .int .i64 k∧ok= .bool x∧L.length=k∧wr.ownsRow w.heap.size 75 2 v k (AC L)∧Aq wr p s2 sh2∧s2.size≤s.size∧Ar p w wr∧(k≤8)∧(x=true→n≤8)∧(x=true→sh2=false→∀b∈L,PW b))
 case atStart=>exact ⟨0,[],_,s1,sh1,by omega,by omega,rfl,rfl,rfl,World.ownsRow_nil _ _ _ _,ht1,h1,hb1,by omega,fun h=>by simpa using h,fun _ _ b hb=>by simp at hb⟩
 case round=>
  obtain ⟨k,L,x,s2,sh2,hg,hk,rfl,rfl,hL,hown,ht2,hs2,hb2,hk8,hx,hxx⟩:=hrel;obtain ⟨d0,d1,e0,e1⟩:=ht2;by_cases hgo:(k:Int)<n∧x=true∧sh2=false
  ·obtain ⟨hlt,rfl,rfl⟩:=hgo;have hn8:Hid (n≤8):=hx rfl;have hall:=hxx rfl rfl;clear hxx hx;go_wp2_with fail;refine (C7 p 1 s2 false _ (by decide) (by decide) (by omega) ⟨d0,d1,e0,e1⟩).mono ?_;rintro e w2 ⟨v2,s3,sh3,rfl,hb3,ht3,kk,rfl,k1,k2,k3,k4⟩;have k3':kk<256:=by simpa using k3
   clear k3;go_wp2_with fail;refine (Jr p kk s3 sh3 _ k2 (by omega) (by omega) ht3).mono ?_;rintro e w3 ⟨v3,s4,sh4,rfl,hb4,ht4,id,rfl,l1,l2,l3,l4⟩;go_wp2_with fail;refine (C7 p 1 s4 sh4 _ (by decide) (by decide) (by omega) ht4).mono ?_;rintro e w4 ⟨v4,s5,sh5,rfl,hb5,ht5,wt,rfl,m1,m2,m3,m4⟩;have m3':wt<256:=by simpa using m3
   clear m3;have hown4:=JB hown ((hb3.trans hb4).trans hb5) hp;have hB:=((hb2.trans hb3).trans hb4).trans hb5;clear hown hb2 hb3 hb4 hb5 ht4 ht3 d0 d1 e0 e1;go_upto_region 10 with fail
   go_cut [6] (fun v6 wc=>w4=wc∧∃y,v6= .bool y∧(y=true→1≤kk∧kk≤8∧wt≤6))
   case first=>
    by_cases q1:0<kk
    ·by_cases q2:kk<9
     ·by_cases q3:wt<7
      ·by_cases q4:k=0
       ·subst q4;go_wp2_with fail;go_meet
        case rel=>exact ⟨rfl,_,rfl,fun _=>by omega⟩
       ·obtain ⟨g,cap,cur,rfl,hgb, -,hkc,hkm, -, -⟩:∃g cap cur,_=Value.slice (some ⟨g,0,none⟩) k cap∧w.heap.size≤g∧w4.heap[g]?=some (.cells cur 75 (0,0))∧k≤cap∧cap≤maxLen∧cur.size=cap * 2∧cur.toList.take (k * 2)=AC L:=by
         rcases hown4.2 with ⟨_,hh⟩|hh
         ·exact absurd hh q4
         ·exact hh
        obtain ⟨j,rfl⟩:∃j,k=j+1:=⟨k - 1,by omega⟩
        have hcell:w4.cell? ⟨g,j * 2,none⟩=some (.string (L[j]'(by omega)).1):=by
         have:=(Ap.of_owns hown4);rcases this with ⟨h,_⟩|⟨g',cap',hv,_,_,hc⟩
         ·cases h
         ·simp only [Value.slice.injEq,Option.some.injEq,Addr.mk.injEq,and_true] at hv;rw [hv.1];exact hc _ _ (JU L j (by omega)).1
        generalize (L[j]'(by omega)).1=idj at *
        go_wp2_with fail
        go_meet
        case rel=>exact ⟨rfl,_,rfl,fun _=>by omega⟩
      ·go_wp2_with fail;go_meet
       case rel=>exact ⟨rfl,_,rfl,fun h=>by cases h⟩
     ·go_wp2_with fail;go_meet
      case rel=>exact ⟨rfl,_,rfl,fun h=>by cases h⟩
    ·go_wp2_with fail;go_meet
     case rel=>exact ⟨rfl,_,rfl,fun h=>by cases h⟩
   case rest=>
    obtain ⟨rfl,y,rfl,hy⟩:=hcut
    have hgood:y=true→sh5=false→PW (id,wt):=fun h h5=>by
     obtain ⟨y1,y2,y3⟩:=hy h;have hid:=(l4 (m4 h5)).2;exact ⟨by simp only;omega,by simp only;omega,m2,y3⟩
    go_wp2_with (first|(at_builtin;refine wpList_append_own _ rfl _ _ 58 rfl w.heap.size 75 i0 (.agg #[.string ByteArray.empty,.int .i64 0]) 2 24 Tryz.underlying58 hi hz0 hz1 hz2 rfl (by decide) _ k (AC L) rfl ?o1 ⟨w4.heap.size,0,none⟩ 1 1 [.string id,.int .i64 wt] rfl rfl ?c1 ?c2 ?c3 ?c4 ?c5 ?_))
    case o1=>exact hown4.alloc _
    case c1=>exact I0 _ _ _ _ _ rfl
    case c2=>intro u hu;simp at hu;rcases hu with rfl|rfl <;>rfl
    case c3=>unfold maxLen;omega
    case c4=>omega
    case c5=>have:=hB.size;simp;omega
    intro v' w6 hown' hgrow _;have hlt4:=fun g hg=>(hown4.lt g hg).1
    have hB6:Ar p w w6:=(hB.trans (Ar.of_bel (Aa.step_alloc (jD _) _))).grown hgrow hlt4;have ht6:Aq w6 p s5 sh5:=Ar.text w (ht5.later (Aa.step_alloc (jD _) _)) hgrow hlt4 hp;clear hgrow;go_wp2_with fail;go_roundg (n.toNat - (k+1))
    case measure=>omega
    case rel=>exact ⟨k+1,L++[(id,wt)],y,s5,sh5,rfl,by omega,by go_num,rfl,by simp [hL],by rw [UN];exact hown',ht6,by omega,hB6,by have:=hn8.out;omega,fun _=>hn8.out,fun h h5 b hb=>by rcases jT.1 hb with h1|h1;exact hall b h1;(simp at h1;subst h1;exact hgood h h5)⟩
  ·have hown':=Ap.of_owns hown;have hblk:Hid (∀g,_=some g→w.heap.size≤g):=fun g hg=>(hown.lt g hg).1
   rw [←hL] at hown';have hpool:Am wr _ L:=hown';clear hown hown';clear hx;have hfin:x=true→sh2=false→AL L:=fun h1 h2=>⟨by omega,fun b hb=>hxx h1 h2 b hb⟩
   clear hxx;by_cases hlt:(k:Int)<n
   ·cases x
    ·cases sh2
     all_goals
      go_wp2_with fail;go_quiet (fail);go_wp2;go_ret2;exact ⟨_,L,_,s2,_,rfl,hb2.trans (Ar.of_bel (by solve_by_elim [jA,jB,jC,jD,jE])),Aq.later ⟨d0,d1,e0,e1⟩ (by solve_by_elim [jA,jB,jC,jD,jE]),hs2,hpool.later (by solve_by_elim [jA,jB,jC,jD,jE]),by omega,hblk.out,fun h=>by cases h⟩
    ·cases sh2
     ·exact absurd ⟨hlt,rfl,rfl⟩ hgo
     ·go_wp2_with fail;go_quiet (fail);go_wp2;go_ret2;exact ⟨_,L,_,s2,_,rfl,hb2.trans (Ar.of_bel (by solve_by_elim [jA,jB,jC,jD,jE])),Aq.later ⟨d0,d1,e0,e1⟩ (by solve_by_elim [jA,jB,jC,jD,jE]),hs2,hpool.later (by solve_by_elim [jA,jB,jC,jD,jE]),by omega,hblk.out,fun h=>by cases h⟩
   ·clear hgo;cases x
    ·cases sh2
     all_goals
      go_wp2_with fail;go_quiet (fail);go_wp2;go_ret2;exact ⟨_,L,_,s2,_,rfl,hb2.trans (Ar.of_bel (by solve_by_elim [jA,jB,jC,jD,jE])),Aq.later ⟨d0,d1,e0,e1⟩ (by solve_by_elim [jA,jB,jC,jD,jE]),hs2,hpool.later (by solve_by_elim [jA,jB,jC,jD,jE]),by omega,hblk.out,fun h=>by cases h⟩
    ·cases sh2
     ·have HF:Hid (AL L):=hfin rfl rfl;clear hfin;go_wp2_with fail;go_quiet (fail);go_wp2;go_ret2;exact ⟨_,L,_,s2,_,rfl,hb2.trans (Ar.of_bel (by solve_by_elim [jA,jB,jC,jD,jE])),Aq.later ⟨d0,d1,e0,e1⟩ (by solve_by_elim [jA,jB,jC,jD,jE]),hs2,hpool.later (by solve_by_elim [jA,jB,jC,jD,jE]),by omega,hblk.out,fun _=>⟨rfl,HF.out⟩⟩
     ·go_wp2_with fail;go_quiet (fail);go_wp2;go_ret2;exact ⟨_,L,_,s2,_,rfl,hb2.trans (Ar.of_bel (by solve_by_elim [jA,jB,jC,jD,jE])),Aq.later ⟨d0,d1,e0,e1⟩ (by solve_by_elim [jA,jB,jC,jD,jE]),hs2,hpool.later (by solve_by_elim [jA,jB,jC,jD,jE]),by omega,hblk.out,fun h=>by cases h⟩
theorem Tryz.infoEN:(Tryz.prog.info? 183).map (fun i=>(i.zero,i.size,i.bytes))=some (some (.agg #[.string ByteArray.empty,.int .i64 0,.int .i64 0]),3,32):=by kernel_rfl
theorem Gq (l:List EN) (b:EN):Av (l++[b])=Av l++[.string b.1,.int .i64 b.2.1,.int .i64 b.2.2]:=by simp [Av]
def DZ (B:List BK) (e:EN):Prop:=(∃b∈B,b.1=e.1)∧Af e.2.1∧Af e.2.2
def GQ (w:World) (p:Nat) (s0:ByteArray) (B:List BK) (n:Nat) (e:Ending) (w':World):Prop:=∃(v:Value) (L:List EN) (okb:Bool) (s:ByteArray) (sh:Bool),e= .returned (.tuple #[v,.bool okb])∧Ar p w w'∧Aq w' p s sh∧s.size≤s0.size∧Dz w.heap.size w' v L∧L.length≤n∧(∀x∈L,DZ B x)
theorem FX (w:World) (a b c:Value) (t:TypeId) (n:Nat) (hn:n=w.heap.size):∀j u,[a,b,c][j]?=some u→(w.alloc (.cells #[a,b,c] t)).cell? ((⟨n,0,none⟩:Addr).add j)=some u:=by
 subst hn;intro j u hu
 match j,hu with
 |0,hu=>simp at hu;subst hu;simp [Addr.add]
 |1,hu=>simp at hu;subst hu;simp [Addr.add]
 |2,hu=>simp at hu;subst hu;simp [Addr.add]
theorem Cd:Af 0:=⟨by decide,by decide⟩
theorem Aq.other {w:World} {p q o:Nat} {s:ByteArray} {sh:Bool} {u:Value} (h:Aq w p s sh) (hq:q≠p):Aq (w.setCell ⟨q,o,none⟩ u) p s sh:=
 ⟨by rw [Ad (Or.inl hq)];exact h.1,by rw [Ad (Or.inl hq)];exact h.2.1,by rw [Ag];exact h.2.2.1,by rw [Ag];exact h.2.2.2⟩
theorem OJ (p:Nat) (n:Nat) (pb:Bool) (vB:Value) (B:List BK) (s:ByteArray) (sh:Bool) (w:World) (hs:s.size≤maxLen) (ht:Aq w p s sh) (hp:p<w.heap.size) (hn:n≤65535) (hB:Am w vB B) (hB8:B.length≤8) (hBp:∀g,vB.ownBlock=some g→g≠p):
  Calls Tryz.prog 151 #[.pointer (some ⟨p,0,none⟩),.int .i64 n,.bool pb,vB] w (GQ w p s B n):=by
 obtain ⟨i0,hi,hz0,hz1,hz2⟩:=info_parts Tryz.infoEN
 obtain ⟨aoB,capB,rfl⟩:∃ao cap,vB= .slice ao B.length cap:=by
  rcases hB.form with ⟨rfl,rfl⟩|⟨g,cap,rfl,_⟩
  ·exact ⟨_,_,rfl⟩
  ·exact ⟨_,_,rfl⟩
 go_enter Tryz.func151,Tryz.ntmps151;go_wp2;go_loopg [10,11] n (fun g v i wr=>∃(k:Nat) (L:List EN) (s2:ByteArray) (sh2:Bool),g=n - k∧k≤n∧i= .int .i64 k∧L.length=k∧wr.ownsRow w.heap.size 183 3 v k (Av L)∧Aq wr p s2 sh2∧s2.size≤s.size∧Ar p w wr∧∀x∈L,DZ B x)
 case atStart=>exact ⟨0,[],s,sh,by omega,by omega,rfl,rfl,World.ownsRow_nil _ _ _ _,ht,jH _,Ar.refl _ _,fun x hx=>by simp at hx⟩
 case round=>
  obtain ⟨k,L,s2,sh2,hg,hk,rfl,hL,hown,ht2,hs2,hb2,hall⟩:=hrel;have hpw:p<wr.heap.size:=jN hp hb2.size;have hBw:=hB.but hb2 hBp;obtain ⟨d0,d1,e0,e1⟩:=ht2;by_cases hgo:k<n∧sh2=false
  ·obtain ⟨hlt,rfl⟩:=hgo;cases pb
   ·go_wp2_with fail;refine (C7 p 2 s2 false _ (by decide) (by decide) (by omega) (Aq.later ⟨d0,d1,e0,e1⟩ (by solve_by_elim [jA,jB,jC,jD,jE]))).mono ?_;rintro e w3 ⟨v2,s3,sh3,rfl,hb3,ht3,kk,rfl,k1,hk0,k3,k4⟩;clear k3;have hne:wr.heap.size≠p:=by omega
    have ce0:w3.cell? ⟨wr.heap.size,0,none⟩=some (.string ⟨#[]⟩):=hb3.cell (by simp) hne;have ce1:w3.cell? ⟨wr.heap.size,1,none⟩=some (.int .i64 0):=hb3.cell (by simp) hne;have ce2:w3.cell? ⟨wr.heap.size,2,none⟩=some (.int .i64 0):=hb3.cell (by simp) hne;have fe0:w3.frozen? ⟨wr.heap.size,0,none⟩=false:=hb3.frozen (v:= .string ⟨#[]⟩) (by simp) (by simp) hne;have hbE:Ar p wr w3:=(Ar.of_bel (by solve_by_elim [jA,jB,jC,jD,jE])).trans hb3;have hBz:=hBw.but hbE hBp;have hownz:=JB hown hbE (jN hp (jH _));have hbz:=hb2.trans hbE;by_cases hkl:kk<(B.length:Int)
    ·obtain ⟨m,rfl⟩:=jM hk0;have hkl':m<B.length:=by omega
     obtain ⟨g,hao,hgc⟩:∃g,aoB=some ⟨g,0,none⟩∧w3.cell? ⟨g,m * 2,none⟩=some (.string B[m].1):=by
      rcases hBz.form with ⟨_,rfl⟩|⟨g,cap,hv,_,_,hc⟩
      ·simp at hkl'
      ·simp only [Value.slice.injEq] at hv;exact ⟨g,hv.1,(hc m hkl').1⟩
     subst hao;have hmem:∃b∈B,b.1=B[m].1:=⟨B[m],jJ hkl',rfl⟩;generalize B[m].1=idm at *;have hB6:Ar p wr (w3.setCell ⟨wr.heap.size,0,none⟩ (.string idm)):=hbE.step_new (by simp) _;go_wp2_with (first|(at_builtin;refine wpList_append_own _ rfl _ _ 121 rfl w.heap.size 183 i0 (.agg #[.string ByteArray.empty,.int .i64 0,.int .i64 0]) 3 32 Tryz.underlying121 hi hz0 hz1 hz2 rfl (by decide) _ k (Av L) rfl ?o1 ⟨w3.heap.size,0,none⟩ 1 1 [.string idm,.int .i64 0,.int .i64 0] rfl rfl ?c1 ?c2 ?c3 ?c4 ?c5 ?_))
     case o1=>exact (JB hown hB6 hp).alloc _
     case c1=>exact FX _ _ _ _ _ _ (by simp)
     case c2=>intro u hu;simp at hu;rcases hu with rfl|rfl|rfl <;>rfl
     case c3=>unfold maxLen;omega
     case c4=>omega
     case c5=>have:=hbz.size;simp;omega
     intro v' w6 hown' hgrow _;have hlt4:=fun g hg=>(hown.lt g hg).1
     have hb6:Ar p w w6:=((hb2.trans hB6).alloc _).grown hgrow hlt4;have ht6:Aq w6 p s3 sh3:=Ar.text w (Aq.later (Aq.other ht3 (by omega)) (Aa.step_alloc (jD _) _)) hgrow hlt4 hp;clear hgrow;go_wp2_with fail;go_roundg (n - (k+1))
     case measure=>omega
     case rel=>exact ⟨k+1,L++[(idm,0,0)],s3,sh3,rfl,by omega,by go_num,by simp [hL],by rw [Gq];exact hown',ht6,by omega,hb6,fun x hx=>by rcases jT.1 hx with h1|h1;exact hall x h1;(simp at h1;subst h1;exact ⟨hmem,Cd,Cd⟩)⟩
    ·go_wp2;go_ret2;exact ⟨_,[],_,s3,sh3,rfl,hbz,ht3,by omega,⟨Or.inl ⟨rfl,rfl,rfl⟩,fun g hg=>(by cases hg)⟩,by simp,fun x hx=>by simp at hx⟩
   ·go_wp2_with fail;refine (C7 p 4 s2 false _ (by decide) (by decide) (by omega) (Aq.later ⟨d0,d1,e0,e1⟩ (by solve_by_elim [jA,jB,jC,jD,jE]))).mono ?_;rintro e w3 ⟨v3,s3,sh3,rfl,hb3,ht3,hi',rfl,k1,k2,k3,k4⟩;have hhi:Af hi':=⟨k2,by simpa using k3⟩;clear k2 k3;go_wp2_with fail;refine (C7 p 4 s3 sh3 _ (by decide) (by decide) (by omega) ht3).mono ?_;rintro e w4 ⟨v4,s4,sh4,rfl,hb4,ht4,lo',rfl,l1,l2,l3,l4⟩;have hlo:Af lo':=⟨l2,by simpa using l3⟩;clear l2 l3;have hb34:=hb3.trans hb4;have hne:wr.heap.size≠p:=by omega
    have ce0:w4.cell? ⟨wr.heap.size,0,none⟩=some (.string ⟨#[]⟩):=hb34.cell (by simp) hne;have ce1:w4.cell? ⟨wr.heap.size,1,none⟩=some (.int .i64 0):=hb34.cell (by simp) hne;have ce2:w4.cell? ⟨wr.heap.size,2,none⟩=some (.int .i64 0):=hb34.cell (by simp) hne;have fe0:w4.frozen? ⟨wr.heap.size,0,none⟩=false:=hb34.frozen (v:= .string ⟨#[]⟩) (by simp) (by simp) hne;have fe1:w4.frozen? ⟨wr.heap.size,1,none⟩=false:=hb34.frozen (v:= .int .i64 0) (by simp) (by simp) hne;have fe2:w4.frozen? ⟨wr.heap.size,2,none⟩=false:=hb34.frozen (v:= .int .i64 0) (by simp) (by simp) hne;go_wp2_with fail;refine (C7 p 1 s4 sh4 _ (by decide) (by decide) (by omega) (Aq.other (Aq.other ht4 (by omega)) (by omega))).mono ?_;rintro e w5 ⟨v5,s5,sh5,rfl,hb5,ht5,kk,rfl,m1,hk0,m3,m4⟩;clear m3;have hbA:Ar p wr ((w4.setCell ⟨wr.heap.size,1,none⟩ (.int .i64 hi')).setCell ⟨wr.heap.size,2,none⟩ (.int .i64 lo')):=(((Ar.of_bel (by solve_by_elim [jA,jB,jC,jD,jE])).trans hb34).step_new (by simp) _).step_new (by simp) _;have hbE:Ar p wr w5:=hbA.trans hb5;have c0':w5.cell? ⟨wr.heap.size,0,none⟩=some (.string ⟨#[]⟩):=hb5.cell (by rw [Ad (by simp),Ad (by simp)];exact ce0) hne;have c1':w5.cell? ⟨wr.heap.size,1,none⟩=some (.int .i64 hi'):=hb5.cell (by rw [Ad (by simp)];exact Bc ce1) hne;have c2':w5.cell? ⟨wr.heap.size,2,none⟩=some (.int .i64 lo'):=hb5.cell (Bc (v:= .int .i64 0) (by rw [Ad (by simp)];exact ce2)) hne;have f0':w5.frozen? ⟨wr.heap.size,0,none⟩=false:=hb5.frozen (v:= .string ⟨#[]⟩) (by rw [Ad (by simp),Ad (by simp)];exact ce0) (by rw [Ag,Ag];exact fe0) hne;clear ce0 ce1 ce2 fe0 fe1 fe2;have hBz:=hBw.but hbE hBp;have hownz:=JB hown hbE (jN hp (jH _));have hbz:=hb2.trans hbE;by_cases hkl:kk<(B.length:Int)
    ·obtain ⟨m,rfl⟩:=jM hk0;have hkl':m<B.length:=by omega
     obtain ⟨g,hao,hgc⟩:∃g,aoB=some ⟨g,0,none⟩∧w5.cell? ⟨g,m * 2,none⟩=some (.string B[m].1):=by
      rcases hBz.form with ⟨_,rfl⟩|⟨g,cap,hv,_,_,hc⟩
      ·simp at hkl'
      ·simp only [Value.slice.injEq] at hv;exact ⟨g,hv.1,(hc m hkl').1⟩
     subst hao;have hmem:∃b∈B,b.1=B[m].1:=⟨B[m],jJ hkl',rfl⟩;generalize B[m].1=idm at *;have hB6:Ar p wr (w5.setCell ⟨wr.heap.size,0,none⟩ (.string idm)):=hbE.step_new (by simp) _;go_wp2_with (first|(at_builtin;refine wpList_append_own _ rfl _ _ 121 rfl w.heap.size 183 i0 (.agg #[.string ByteArray.empty,.int .i64 0,.int .i64 0]) 3 32 Tryz.underlying121 hi hz0 hz1 hz2 rfl (by decide) _ k (Av L) rfl ?o1 ⟨w5.heap.size,0,none⟩ 1 1 [.string idm,.int .i64 hi',.int .i64 lo'] rfl rfl ?c1 ?c2 ?c3 ?c4 ?c5 ?_))
     case o1=>exact (JB hown hB6 hp).alloc _
     case c1=>exact FX _ _ _ _ _ _ (by simp)
     case c2=>intro u hu;simp at hu;rcases hu with rfl|rfl|rfl <;>rfl
     case c3=>unfold maxLen;omega
     case c4=>omega
     case c5=>have:=hbz.size;simp;omega
     intro v' w6 hown' hgrow _;have hlt4:=fun g hg=>(hown.lt g hg).1
     have hb6:Ar p w w6:=((hb2.trans hB6).alloc _).grown hgrow hlt4;have ht6:Aq w6 p s5 sh5:=Ar.text w (Aq.later (Aq.other ht5 (by omega)) (Aa.step_alloc (jD _) _)) hgrow hlt4 hp;clear hgrow;go_wp2_with fail;go_roundg (n - (k+1))
     case measure=>omega
     case rel=>exact ⟨k+1,L++[(idm,hi',lo')],s5,sh5,rfl,by omega,by go_num,by simp [hL],by rw [Gq];exact hown',ht6,by omega,hb6,fun x hx=>by rcases jT.1 hx with h1|h1;exact hall x h1;(simp at h1;subst h1;exact ⟨hmem,hhi,hlo⟩)⟩
    ·go_wp2;go_ret2;exact ⟨_,[],_,s5,sh5,rfl,hbz,ht5,by omega,⟨Or.inl ⟨rfl,rfl,rfl⟩,fun g hg=>(by cases hg)⟩,by simp,fun x hx=>by simp at hx⟩
  ·have hown':=Ap.of_owns hown;rw [←hL] at hown';have hents:Dz w.heap.size wr _ L:=⟨hown',fun g hg=>(World.ownsRow.lt hown g hg).1⟩;clear hown hown';by_cases hlt:k<n
   ·cases sh2
    ·exact absurd ⟨hlt,rfl⟩ hgo
    ·go_wp2_with fail;go_quiet (fail);go_wp2;go_ret2;exact ⟨_,L,_,s2,_,rfl,hb2.trans (Ar.of_bel (by solve_by_elim [jA,jB,jC,jD,jE])),Aq.later ⟨d0,d1,e0,e1⟩ (by solve_by_elim [jA,jB,jC,jD,jE]),hs2,hents.later (by solve_by_elim [jA,jB,jC,jD,jE]),by omega,hall⟩
   ·cases sh2
    all_goals
     go_wp2_with fail;go_quiet (fail);go_wp2;go_ret2;exact ⟨_,L,_,s2,_,rfl,hb2.trans (Ar.of_bel (by solve_by_elim [jA,jB,jC,jD,jE])),Aq.later ⟨d0,d1,e0,e1⟩ (by solve_by_elim [jA,jB,jC,jD,jE]),hs2,hents.later (by solve_by_elim [jA,jB,jC,jD,jE]),by omega,hall⟩
theorem It (p:Nat) (s:ByteArray) (sh:Bool) (w:World) (hs:s.size≤1099511627776) (ht:Aq w p s sh):
  Calls Tryz.prog 187 #[.pointer (some ⟨p,0,none⟩)] w (LX w p fun v s' sh'=>∃x:ByteArray,v= .string x∧s'.size≤s.size∧sh'=sh∧Db x∧x.size=8 * s.size):=by
 go_enter Tryz.func187,Tryz.ntmps187;go_wp2;go_loopw [3,4] (fun o i wr=>∃(x:ByteArray) (k:Nat),k≤s.size∧o= .string x∧i= .int .i64 k∧x.size=8 * k∧Db x∧Aa w wr) (fun _ i _=>s.size - (intOf i).toNat)
 case atStart=>exact ⟨ByteArray.empty,0,by omega,rfl,rfl,rfl,LM,jD _⟩
 case round=>
  obtain ⟨x,k,hk,rfl,rfl,hx,h01,hb⟩:=hrel;obtain ⟨c0,c1,f0,f1⟩:=ht.later hb;by_cases hlt:k<s.size
  ·have h3:=Km s[k];have hx2:x.size≤8796093022208:=by omega
   have HX:Hid (x.size=8 * k):=hx;clear hx;go_wp2_with fail;refine (JK _ _ _ (by decide) (by decide)).mono ?_;rintro e w2 ⟨y,rfl,hb2,hy,hy01⟩;have hy8:y.size=8:=by simpa using hy
   clear hy;go_wp2;go_roundw
   case rel=>exact ⟨_,k+1,by omega,rfl,by go_num,by have:=HX.out;simp;omega,Ib h01 hy01,by solve_by_elim [jA,jB,jC,jD,jE]⟩
   case measure=>simp [intOf];omega
  ·have hx3:Hid (x.size=8 * s.size):=by
    have:k=s.size:=by omega
    subst this;exact hx
   clear hx
   go_wp2
   go_ret
   exact ⟨_,ByteArray.empty,sh,rfl,(Ar.of_bel hb).step_set _,Aq.set0 ⟨c0,c1,f0,f1⟩ _,_,rfl,Nat.zero_le _,rfl,h01,hx3.out⟩
end Go.Proofs.YtpapdkhjdelfcabGreat
