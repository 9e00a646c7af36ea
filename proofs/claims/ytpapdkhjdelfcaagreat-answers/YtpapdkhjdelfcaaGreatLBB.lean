import Derived.Test.YtpapdkhjdelfcaaGreatLBA
namespace Go.Proofs.YtpapdkhjdelfcaaGreat
open Go.RowKit
set_option maxRecDepth 100000
set_option maxHeartbeats 4000000
theorem Tryz.infoBKS:(Tryz.prog.info? 57).map (fun i=>(i.zero,i.size,i.bytes))=some (some (.agg #[.string ByteArray.empty,.int .i64 0]),2,24):=by kernel_rfl
theorem JB {w w':World} {p base:Nat} {e:TypeId} {a:Nat} {v:Value} {n:Nat} {d:List Value} (h:w.ownsRow base e a v n d) (k:Ar p w w') (o:p<base):w'.ownsRow base e a v n d:=by
 obtain ⟨i,b⟩:=h;refine ⟨i,?_⟩;rcases b with b|⟨g,cap,c,l,m,f,r⟩
 .exact Or.inl b
 .exact Or.inr ⟨g,cap,c,l,m,by rw [k.block g (Array.getElem?_eq_some_iff.1 f).1 jo];exact f,r⟩
theorem UN (l:List BK) (b:BK):AC (l++[b])=AC l++[.string b.1,.int .i64 b.2]:=by simp [AC]
theorem Ar.grown {p:Nat} {a w w':World} {row:Option Nat} (h:Ar p a w) (b:w.grownBy w' row) (d:∀k,row=some k->a.heap.size<=k):Ar p a w':=
 ⟨b.os.trans h.os,b.tape.trans h.tape,b.output.trans h.output,jX h.size b.size,fun i c f=>(b.block i (jN c h.size) (fun e=>by have:=d i e.symm;omega)).trans (h.block i c f)⟩
theorem Ar.text {p:Nat} (a:World) {w w':World} {row:Option Nat} {s:ByteArray} {sh:Bool} (b:Aq w p s sh) (f:w.grownBy w' row) (g:∀k,row=some k->a.heap.size<=k) (i:p<a.heap.size):Aq w' p s sh:=by
 have d:some p≠row:=fun e=>by have:=g p e.symm;omega
 have c:=f.block p (World.block_lt_of_cell? w ⟨p,0,none⟩ b.1) d;exact ⟨(World.cell?_of_block (a:=⟨p,0,none⟩) c).trans b.1,(World.cell?_of_block (a:=⟨p,1,none⟩) c).trans b.2.1,(World.frozen?_of_block (a:=⟨p,0,none⟩) c).trans b.2.2.1,(World.frozen?_of_block (a:=⟨p,1,none⟩) c).trans b.2.2.2⟩
def PW (b:BK):Prop:=1<=b.1.size/\b.1.size<=8/\0<=b.2/\b.2<=6
def VT (w:World) (p:Nat) (b:ByteArray) (e:Ending) (w':World):Prop:=∃(v:Value) (L:List BK) (a:Bool) (s:ByteArray) (sh:Bool),e= .returned (.tuple #[v,.bool a])/\Ar p w w'/\Aq w' p s sh/\s.size<=b.size/\Am w' v L/\L.length<=8/\(∀g,v.ownBlock=some g->w.heap.size<=g)/\(a=true->sh=false/\AL L)
theorem OB (p:Nat) (s:ByteArray) (sh:Bool) (w:World) (hs:s.size<=maxLen) (ht:Aq w p s sh) (hp:p<w.heap.size):
  Calls Tryz.prog 95 #[.pointer (some ⟨p,0,none⟩)] w (VT w p s):=by
 obtain ⟨i0,hi,hz0,hz1,hz2⟩:=info_parts Tryz.infoBKS;go_enter Tryz.func95,Tryz.ntmps95;go_wp2_with fail;refine (C7 p 1 s sh _ (by decide) (by decide) hs ht).mono ?_;rintro e w1 ⟨v,s1,sh1,rfl,hb1,ht1,n,rfl,h1,h2,h3,h4⟩;have h3':n<256:=by simpa using h3
 clear h3;go_wp2;go_loopg [4,6,7] n.toNat (fun g v ok i wr=>∃(k:Nat) (L:List BK) (x:Bool) (s2:ByteArray) (sh2:Bool),g=n.toNat - k/\k<=n.toNat/\i= .int .i64 k/\ok= .bool x/\L.length=k/\wr.ownsRow w.heap.size 57 2 v k (AC L)/\Aq wr p s2 sh2/\s2.size<=s.size/\Ar p w wr/\(k<=8)/\(x=true->n<=8)/\(x=true->sh2=false->∀b∈L,PW b))
 case atStart=>exact ⟨0,[],_,s1,sh1,by omega,by omega,rfl,rfl,rfl,World.ownsRow_nil _ _ _ _,ht1,h1,hb1,by omega,fun h=>by simpa using h,fun _ _ b hb=>by simp at hb⟩
 case round=>
  obtain ⟨k,L,x,s2,sh2,hg,hk,rfl,rfl,hL,hown,ht2,hs2,hb2,hk8,hx,hxx⟩:=hrel;obtain ⟨d0,d1,e0,e1⟩:=ht2;by_cases hgo:(k:Int)<n/\x=true/\sh2=false
  .obtain ⟨hlt,rfl,rfl⟩:=hgo;have hn8:Hid (n<=8):=hx rfl;have hall:=hxx rfl rfl;clear hxx hx;go_wp2_with fail;refine (C7 p 1 s2 false _ (by decide) (by decide) (by omega) ⟨d0,d1,e0,e1⟩).mono ?_;rintro e w2 ⟨v2,s3,sh3,rfl,hb3,ht3,kk,rfl,k1,k2,k3,k4⟩;have k3':kk<256:=by simpa using k3
   clear k3;go_wp2_with fail;refine (Jr p kk s3 sh3 _ k2 (by omega) (by omega) ht3).mono ?_;rintro e w3 ⟨v3,s4,sh4,rfl,hb4,ht4,id,rfl,l1,l2,l3,l4⟩;go_wp2_with fail;refine (C7 p 1 s4 sh4 _ (by decide) (by decide) (by omega) ht4).mono ?_;rintro e w4 ⟨v4,s5,sh5,rfl,hb5,ht5,wt,rfl,m1,m2,m3,m4⟩;have m3':wt<256:=by simpa using m3
   clear m3;have hown4:=JB hown ((hb3.trans hb4).trans hb5) hp;have hB:=((hb2.trans hb3).trans hb4).trans hb5;clear hown hb2 hb3 hb4 hb5 ht4 ht3 d0 d1 e0 e1;go_upto_region 10 with fail
   go_cut [6] (fun v6 wc=>w4=wc/\∃y,v6= .bool y/\(y=true->1<=kk/\kk<=8/\wt<=6))
   case first=>
    by_cases q1:0<kk
    .by_cases q2:kk<9
     .by_cases q3:wt<7
      .by_cases q4:k=0
       .subst q4;go_wp2_with fail;go_meet
        case rel=>exact ⟨rfl,_,rfl,fun _=>by omega⟩
       .obtain ⟨g,cap,cur,rfl,hgb, -,hkc,hkm, -, -⟩:∃g cap cur,_=Value.slice (some ⟨g,0,none⟩) k cap/\w.heap.size<=g/\w4.heap[g]?=some (.cells cur 57 (0,0))/\k<=cap/\cap<=maxLen/\cur.size=cap * 2/\cur.toList.take (k * 2)=AC L:=by
         rcases hown4.2 with ⟨_,hh⟩|hh
         .exact absurd hh q4
         .exact hh
        obtain ⟨j,rfl⟩:∃j,k=j+1:=⟨k - 1,by omega⟩
        have hcell:w4.cell? ⟨g,j * 2,none⟩=some (.string (L[j]'(by omega)).1):=by
         have:=(Ap.of_owns hown4);rcases this with ⟨h,_⟩|⟨g',cap',hv,_,_,hc⟩
         .cases h
         .simp only [Value.slice.injEq,Option.some.injEq,Addr.mk.injEq,and_true] at hv;rw [hv.1];exact hc _ _ (JU L j (by omega)).1
        generalize (L[j]'(by omega)).1=idj at *
        go_wp2_with fail
        go_meet
        case rel=>exact ⟨rfl,_,rfl,fun _=>by omega⟩
      .go_wp2_with fail;go_meet
       case rel=>exact ⟨rfl,_,rfl,fun h=>by cases h⟩
     .go_wp2_with fail;go_meet
      case rel=>exact ⟨rfl,_,rfl,fun h=>by cases h⟩
    .go_wp2_with fail;go_meet
     case rel=>exact ⟨rfl,_,rfl,fun h=>by cases h⟩
   case rest=>
    obtain ⟨rfl,y,rfl,hy⟩:=hcut
    have hgood:y=true->sh5=false->PW (id,wt):=fun h h5=>by
     obtain ⟨y1,y2,y3⟩:=hy h;have hid:=(l4 (m4 h5)).2;exact ⟨by simp only;omega,by simp only;omega,m2,y3⟩
    go_wp2_with (first|(at_builtin;refine wpList_append_own _ rfl _ _ 45 rfl w.heap.size 57 i0 (.agg #[.string ByteArray.empty,.int .i64 0]) 2 24 Tryz.underlying45 hi hz0 hz1 hz2 rfl (by decide) _ k (AC L) rfl ?o1 ⟨w4.heap.size,0,none⟩ 1 1 [.string id,.int .i64 wt] rfl rfl ?c1 ?c2 ?c3 ?c4 ?c5 ?_))
    case o1=>exact hown4.alloc _
    case c1=>exact I0 _ _ _ _ _ rfl
    case c2=>intro u hu;simp at hu;rcases hu with rfl|rfl <;>rfl
    case c3=>unfold maxLen;omega
    case c4=>omega
    case c5=>have:=hB.size;simp;omega
    intro v' w6 hown' hgrow _;have hlt4:=fun g hg=>(hown4.lt g hg).1
    have hB6:Ar p w w6:=(hB.trans (Ar.of_bel (Aa.step_alloc (jD _) _))).grown hgrow hlt4;have ht6:Aq w6 p s5 sh5:=Ar.text w (ht5.later (Aa.step_alloc (jD _) _)) hgrow hlt4 hp;clear hgrow;go_wp2_with fail;go_roundg (n.toNat - (k+1))
    case measure=>omega
    case rel=>exact ⟨k+1,L++[(id,wt)],y,s5,sh5,rfl,by omega,by go_num,rfl,by simp [hL],by rw [UN];exact hown',ht6,by omega,hB6,by have:=hn8.out;omega,fun _=>hn8.out,fun h h5 b hb=>by rcases jT.1 hb with h1|h1;exact hall b h1;(simp at h1;subst h1;exact hgood h h5)⟩
  .have hown':=Ap.of_owns hown;have hblk:Hid (∀g,_=some g->w.heap.size<=g):=fun g hg=>(hown.lt g hg).1
   rw [<-hL] at hown';have hpool:Am wr _ L:=hown';clear hown hown';clear hx;have hfin:x=true->sh2=false->AL L:=fun h1 h2=>⟨by omega,fun b hb=>hxx h1 h2 b hb⟩
   clear hxx;by_cases hlt:(k:Int)<n
   .cases x
    .cases sh2
     all_goals
      go_wp2_with fail;go_quiet (fail);go_wp2;go_ret2;exact ⟨_,L,_,s2,_,rfl,hb2.trans (Ar.of_bel (by (repeat (first|exact jD _|assumption|refine jA ?_|refine jB ?_|refine jC ?_|refine Aa.step_set ?_ (by simp <;>omega) _|refine jE ?_ (by assumption))))),Aq.later ⟨d0,d1,e0,e1⟩ (by (repeat (first|exact jD _|assumption|refine jA ?_|refine jB ?_|refine jC ?_|refine Aa.step_set ?_ (by simp <;>omega) _|refine jE ?_ (by assumption)))),hs2,hpool.later (by (repeat (first|exact jD _|assumption|refine jA ?_|refine jB ?_|refine jC ?_|refine Aa.step_set ?_ (by simp <;>omega) _|refine jE ?_ (by assumption)))),by omega,hblk.out,fun h=>by cases h⟩
    .cases sh2
     .exact absurd ⟨hlt,rfl,rfl⟩ hgo
     .go_wp2_with fail;go_quiet (fail);go_wp2;go_ret2;exact ⟨_,L,_,s2,_,rfl,hb2.trans (Ar.of_bel (by (repeat (first|exact jD _|assumption|refine jA ?_|refine jB ?_|refine jC ?_|refine Aa.step_set ?_ (by simp <;>omega) _|refine jE ?_ (by assumption))))),Aq.later ⟨d0,d1,e0,e1⟩ (by (repeat (first|exact jD _|assumption|refine jA ?_|refine jB ?_|refine jC ?_|refine Aa.step_set ?_ (by simp <;>omega) _|refine jE ?_ (by assumption)))),hs2,hpool.later (by (repeat (first|exact jD _|assumption|refine jA ?_|refine jB ?_|refine jC ?_|refine Aa.step_set ?_ (by simp <;>omega) _|refine jE ?_ (by assumption)))),by omega,hblk.out,fun h=>by cases h⟩
   .clear hgo;cases x
    .cases sh2
     all_goals
      go_wp2_with fail;go_quiet (fail);go_wp2;go_ret2;exact ⟨_,L,_,s2,_,rfl,hb2.trans (Ar.of_bel (by (repeat (first|exact jD _|assumption|refine jA ?_|refine jB ?_|refine jC ?_|refine Aa.step_set ?_ (by simp <;>omega) _|refine jE ?_ (by assumption))))),Aq.later ⟨d0,d1,e0,e1⟩ (by (repeat (first|exact jD _|assumption|refine jA ?_|refine jB ?_|refine jC ?_|refine Aa.step_set ?_ (by simp <;>omega) _|refine jE ?_ (by assumption)))),hs2,hpool.later (by (repeat (first|exact jD _|assumption|refine jA ?_|refine jB ?_|refine jC ?_|refine Aa.step_set ?_ (by simp <;>omega) _|refine jE ?_ (by assumption)))),by omega,hblk.out,fun h=>by cases h⟩
    .cases sh2
     .have HF:Hid (AL L):=hfin rfl rfl;clear hfin;go_wp2_with fail;go_quiet (fail);go_wp2;go_ret2;exact ⟨_,L,_,s2,_,rfl,hb2.trans (Ar.of_bel (by (repeat (first|exact jD _|assumption|refine jA ?_|refine jB ?_|refine jC ?_|refine Aa.step_set ?_ (by simp <;>omega) _|refine jE ?_ (by assumption))))),Aq.later ⟨d0,d1,e0,e1⟩ (by (repeat (first|exact jD _|assumption|refine jA ?_|refine jB ?_|refine jC ?_|refine Aa.step_set ?_ (by simp <;>omega) _|refine jE ?_ (by assumption)))),hs2,hpool.later (by (repeat (first|exact jD _|assumption|refine jA ?_|refine jB ?_|refine jC ?_|refine Aa.step_set ?_ (by simp <;>omega) _|refine jE ?_ (by assumption)))),by omega,hblk.out,fun _=>⟨rfl,HF.out⟩⟩
     .go_wp2_with fail;go_quiet (fail);go_wp2;go_ret2;exact ⟨_,L,_,s2,_,rfl,hb2.trans (Ar.of_bel (by (repeat (first|exact jD _|assumption|refine jA ?_|refine jB ?_|refine jC ?_|refine Aa.step_set ?_ (by simp <;>omega) _|refine jE ?_ (by assumption))))),Aq.later ⟨d0,d1,e0,e1⟩ (by (repeat (first|exact jD _|assumption|refine jA ?_|refine jB ?_|refine jC ?_|refine Aa.step_set ?_ (by simp <;>omega) _|refine jE ?_ (by assumption)))),hs2,hpool.later (by (repeat (first|exact jD _|assumption|refine jA ?_|refine jB ?_|refine jC ?_|refine Aa.step_set ?_ (by simp <;>omega) _|refine jE ?_ (by assumption)))),by omega,hblk.out,fun h=>by cases h⟩
theorem Tryz.infoEN:(Tryz.prog.info? 146).map (fun i=>(i.zero,i.size,i.bytes))=some (some (.agg #[.string ByteArray.empty,.int .i64 0,.int .i64 0]),3,32):=by kernel_rfl
theorem Gq (l:List EN) (b:EN):Av (l++[b])=Av l++[.string b.1,.int .i64 b.2.1,.int .i64 b.2.2]:=by simp [Av]
def DZ (B:List BK) (e:EN):Prop:=(∃b∈B,b.1=e.1)/\Af e.2.1/\Af e.2.2
def GQ (w:World) (p:Nat) (b:ByteArray) (B:List BK) (n:Nat) (e:Ending) (w':World):Prop:=∃(v:Value) (L:List EN) (a:Bool) (s:ByteArray) (sh:Bool),e= .returned (.tuple #[v,.bool a])/\Ar p w w'/\Aq w' p s sh/\s.size<=b.size/\Dz w.heap.size w' v L/\L.length<=n/\(∀x∈L,DZ B x)
theorem FX (w:World) (a b c:Value) (t:TypeId) (n:Nat) (f:n=w.heap.size):∀j u,[a,b,c][j]?=some u->(w.alloc (.cells #[a,b,c] t)).cell? ((⟨n,0,none⟩:Addr).add j)=some u:=by
 subst f;intro j u d
 match j,d with
 |0,d=>simp at d;subst d;simp [Addr.add]
 |1,d=>simp at d;subst d;simp [Addr.add]
 |2,d=>simp at d;subst d;simp [Addr.add]
theorem Cd:Af 0:=⟨ji,ji⟩
theorem Aq.other {w:World} {p q o:Nat} {s:ByteArray} {sh:Bool} {u:Value} (h:Aq w p s sh) (a:q≠p):Aq (w.setCell ⟨q,o,none⟩ u) p s sh:=
 ⟨by rw [Ad (Or.inl a)];exact h.1,by rw [Ad (Or.inl a)];exact h.2.1,by rw [Ag];exact h.2.2.1,by rw [Ag];exact h.2.2.2⟩
theorem OJ (p:Nat) (n:Nat) (pb:Bool) (vB:Value) (B:List BK) (s:ByteArray) (sh:Bool) (w:World) (hs:s.size<=maxLen) (ht:Aq w p s sh) (T:p<w.heap.size) (hn:n<=65535) (hB:Am w vB B) (a4:B.length<=8) (U:∀g,vB.ownBlock=some g->g≠p):
  Calls Tryz.prog 97 #[.pointer (some ⟨p,0,none⟩),.int .i64 n,.bool pb,vB] w (GQ w p s B n):=by
 obtain ⟨i0,hi,ag,ah,ai⟩:=info_parts Tryz.infoEN
 obtain ⟨aj,a3,rfl⟩:∃ao cap,vB= .slice ao B.length cap:=by
  rcases hB.form with ⟨rfl,rfl⟩|⟨g,cap,rfl,_⟩
  .exact ⟨_,_,rfl⟩
  .exact ⟨_,_,rfl⟩
 go_enter Tryz.func97,Tryz.ntmps97;go_wp2;go_loopg [10,11] n (fun g v i wr=>∃(k:Nat) (L:List EN) (V:ByteArray) (C:Bool),g=n - k/\k<=n/\i= .int .i64 k/\L.length=k/\wr.ownsRow w.heap.size 146 3 v k (Av L)/\Aq wr p V C/\V.size<=s.size/\Ar p w wr/\∀x∈L,DZ B x)
 case atStart=>exact ⟨0,[],s,sh,jo,jo,rfl,rfl,World.ownsRow_nil _ _ _ _,ht,jH _,Ar.refl _ _,fun x N=>by simp at N⟩
 case round=>
  obtain ⟨k,L,V,C,M,hk,rfl,hL,f,aq,ak,r,A⟩:=hrel;have a5:p<wr.heap.size:=jN T r.size;have al:=hB.but r U;obtain ⟨d0,d1,e0,e1⟩:=aq;by_cases am:k<n/\C=false
  .obtain ⟨an,rfl⟩:=am;cases pb
   .go_wp2_with fail;refine (C7 p 2 V false _ ji ji jo (Aq.later ⟨d0,d1,e0,e1⟩ jq)).mono ?_;rintro e O ⟨v2,s3,D,rfl,y,P,kk,rfl,k1,W,k3,k4⟩;clear k3;have a:wr.heap.size≠p:=jo
    have Q:O.cell? ⟨wr.heap.size,0,none⟩=some (.string ⟨#[]⟩):=y.cell js a;have X:O.cell? ⟨wr.heap.size,1,none⟩=some (.int .i64 0):=y.cell js a;have Y:O.cell? ⟨wr.heap.size,2,none⟩=some (.int .i64 0):=y.cell js a;have Z:O.frozen? ⟨wr.heap.size,0,none⟩=false:=y.frozen (v:= .string ⟨#[]⟩) js js a;have q:Ar p wr O:=(Ar.of_bel jq).trans y;have aa:=al.but q U;have ab:=JB f q (jN T (jH _));have E:=r.trans q;by_cases ar:kk<(B.length:Int)
    .obtain ⟨m,rfl⟩:=jM W;have l:m<B.length:=jo
     obtain ⟨g,ac,au⟩:∃g,aj=some ⟨g,0,none⟩/\O.cell? ⟨g,m * 2,none⟩=some (.string B[m].1):=by
      rcases aa.form with ⟨_,rfl⟩|⟨g,cap,hv,_,_,hc⟩
      .simp at l
      .simp only [Value.slice.injEq] at hv;exact ⟨g,hv.1,(hc m l).1⟩
     subst ac;have F:∃b∈B,b.1=B[m].1:=⟨B[m],jJ l,rfl⟩;generalize B[m].1=z at *;have G:Ar p wr (O.setCell ⟨wr.heap.size,0,none⟩ (.string z)):=q.step_new js _;go_wp2_with (first|(at_builtin;refine wpList_append_own _ rfl _ _ 83 rfl w.heap.size 146 i0 (.agg #[.string ByteArray.empty,.int .i64 0,.int .i64 0]) 3 32 Tryz.underlying83 hi ag ah ai rfl ji _ k (Av L) rfl ?o1 ⟨O.heap.size,0,none⟩ 1 1 [.string z,.int .i64 0,.int .i64 0] rfl rfl ?c1 ?c2 ?c3 ?c4 ?c5 ?_))
     case o1=>exact (JB f G T).alloc _
     case c1=>exact FX _ _ _ _ _ _ js
     case c2=>intro u hu;simp at hu;rcases hu with rfl|rfl|rfl <;>rfl
     case c3=>unfold maxLen;omega
     case c4=>omega
     case c5=>have:=E.size;simp;omega
     intro v' w6 c d _;have t:=fun g M=>(f.lt g M).1
     have ad:Ar p w w6:=((r.trans G).alloc _).grown d t;have ae:Aq w6 p s3 D:=Ar.text w (Aq.later (Aq.other P jo) (Aa.step_alloc (jD _) _)) d t T;clear d;go_wp2_with fail;go_roundg (n - (k+1))
     case measure=>omega
     case rel=>exact ⟨k+1,L++[(z,0,0)],s3,D,rfl,jo,by go_num,by simp [hL],by rw [Gq];exact c,ae,jo,ad,fun x N=>by rcases jT.1 N with R|R;exact A x R;(simp at R;subst R;exact ⟨F,Cd,Cd⟩)⟩
    .go_wp2;go_ret2;exact ⟨_,[],_,s3,D,rfl,E,P,jo,⟨Or.inl ⟨rfl,rfl,rfl⟩,fun g M=>(by cases M)⟩,js,fun x N=>by simp at N⟩
   .go_wp2_with fail;refine (C7 p 4 V false _ ji ji jo (Aq.later ⟨d0,d1,e0,e1⟩ jq)).mono ?_;rintro e O ⟨v3,s3,D,rfl,y,P,H,rfl,k1,k2,k3,k4⟩;have av:Af H:=⟨k2,by simpa using k3⟩;clear k2 k3;go_wp2_with fail;refine (C7 p 4 s3 D _ ji ji jo P).mono ?_;rintro e w4 ⟨v4,s4,aw,rfl,ax,ay,I,rfl,l1,l2,l3,l4⟩;have az:Af I:=⟨l2,by simpa using l3⟩;clear l2 l3;have o:=y.trans ax;have a:wr.heap.size≠p:=jo
    have Q:w4.cell? ⟨wr.heap.size,0,none⟩=some (.string ⟨#[]⟩):=o.cell js a;have X:w4.cell? ⟨wr.heap.size,1,none⟩=some (.int .i64 0):=o.cell js a;have Y:w4.cell? ⟨wr.heap.size,2,none⟩=some (.int .i64 0):=o.cell js a;have Z:w4.frozen? ⟨wr.heap.size,0,none⟩=false:=o.frozen (v:= .string ⟨#[]⟩) js js a;have a0:w4.frozen? ⟨wr.heap.size,1,none⟩=false:=o.frozen (v:= .int .i64 0) js js a;have a1:w4.frozen? ⟨wr.heap.size,2,none⟩=false:=o.frozen (v:= .int .i64 0) js js a;go_wp2_with fail;refine (C7 p 1 s4 aw _ ji ji jo (Aq.other (Aq.other ay jo) jo)).mono ?_;rintro e S ⟨v5,s5,af,rfl,J,ap,kk,rfl,m1,W,m3,m4⟩;clear m3;have a2:Ar p wr ((w4.setCell ⟨wr.heap.size,1,none⟩ (.int .i64 H)).setCell ⟨wr.heap.size,2,none⟩ (.int .i64 I)):=(((Ar.of_bel jq).trans o).step_new js _).step_new js _;have q:Ar p wr S:=a2.trans J;have a6:S.cell? ⟨wr.heap.size,0,none⟩=some (.string ⟨#[]⟩):=J.cell (by rw [Ad js,Ad js];exact Q) a;have a7:S.cell? ⟨wr.heap.size,1,none⟩=some (.int .i64 H):=J.cell (by rw [Ad js];exact Bc X) a;have a8:S.cell? ⟨wr.heap.size,2,none⟩=some (.int .i64 I):=J.cell (Bc (v:= .int .i64 0) (by rw [Ad js];exact Y)) a;have a9:S.frozen? ⟨wr.heap.size,0,none⟩=false:=J.frozen (v:= .string ⟨#[]⟩) (by rw [Ad js,Ad js];exact Q) (by rw [Ag,Ag];exact Z) a;clear Q X Y Z a0 a1;have aa:=al.but q U;have ab:=JB f q (jN T (jH _));have E:=r.trans q;by_cases ar:kk<(B.length:Int)
    .obtain ⟨m,rfl⟩:=jM W;have l:m<B.length:=jo
     obtain ⟨g,ac,au⟩:∃g,aj=some ⟨g,0,none⟩/\S.cell? ⟨g,m * 2,none⟩=some (.string B[m].1):=by
      rcases aa.form with ⟨_,rfl⟩|⟨g,cap,hv,_,_,hc⟩
      .simp at l
      .simp only [Value.slice.injEq] at hv;exact ⟨g,hv.1,(hc m l).1⟩
     subst ac;have F:∃b∈B,b.1=B[m].1:=⟨B[m],jJ l,rfl⟩;generalize B[m].1=z at *;have G:Ar p wr (S.setCell ⟨wr.heap.size,0,none⟩ (.string z)):=q.step_new js _;go_wp2_with (first|(at_builtin;refine wpList_append_own _ rfl _ _ 83 rfl w.heap.size 146 i0 (.agg #[.string ByteArray.empty,.int .i64 0,.int .i64 0]) 3 32 Tryz.underlying83 hi ag ah ai rfl ji _ k (Av L) rfl ?o1 ⟨S.heap.size,0,none⟩ 1 1 [.string z,.int .i64 H,.int .i64 I] rfl rfl ?c1 ?c2 ?c3 ?c4 ?c5 ?_))
     case o1=>exact (JB f G T).alloc _
     case c1=>exact FX _ _ _ _ _ _ js
     case c2=>intro u hu;simp at hu;rcases hu with rfl|rfl|rfl <;>rfl
     case c3=>unfold maxLen;omega
     case c4=>omega
     case c5=>have:=E.size;simp;omega
     intro v' w6 c d _;have t:=fun g M=>(f.lt g M).1
     have ad:Ar p w w6:=((r.trans G).alloc _).grown d t;have ae:Aq w6 p s5 af:=Ar.text w (Aq.later (Aq.other ap jo) (Aa.step_alloc (jD _) _)) d t T;clear d;go_wp2_with fail;go_roundg (n - (k+1))
     case measure=>omega
     case rel=>exact ⟨k+1,L++[(z,H,I)],s5,af,rfl,jo,by go_num,by simp [hL],by rw [Gq];exact c,ae,jo,ad,fun x N=>by rcases jT.1 N with R|R;exact A x R;(simp at R;subst R;exact ⟨F,av,az⟩)⟩
    .go_wp2;go_ret2;exact ⟨_,[],_,s5,af,rfl,E,ap,jo,⟨Or.inl ⟨rfl,rfl,rfl⟩,fun g M=>(by cases M)⟩,js,fun x N=>by simp at N⟩
  .have c:=Ap.of_owns f;rw [<-hL] at c;have K:Dz w.heap.size wr _ L:=⟨c,fun g M=>(World.ownsRow.lt f g M).1⟩;clear f c;by_cases an:k<n
   .cases C
    .exact absurd ⟨an,rfl⟩ am
    .go_wp2_with fail;go_quiet (fail);go_wp2;go_ret2;exact ⟨_,L,_,V,_,rfl,r.trans (Ar.of_bel jq),Aq.later ⟨d0,d1,e0,e1⟩ jq,ak,K.later jq,jo,A⟩
   .cases C
    all_goals
     go_wp2_with fail;go_quiet (fail);go_wp2;go_ret2;exact ⟨_,L,_,V,_,rfl,r.trans (Ar.of_bel jq),Aq.later ⟨d0,d1,e0,e1⟩ jq,ak,K.later jq,jo,A⟩
theorem It (p:Nat) (s:ByteArray) (sh:Bool) (w:World) (E:s.size<=1099511627776) (m:Aq w p s sh):
  Calls Tryz.prog 145 #[.pointer (some ⟨p,0,none⟩)] w (LX w p fun v n d=>∃x:ByteArray,v= .string x/\n.size<=s.size/\d=sh/\Db x/\x.size=8 * s.size):=by
 go_enter Tryz.func145,Tryz.ntmps145;go_wp2;go_loopw [3,4] (fun o i wr=>∃(x:ByteArray) (k:Nat),k<=s.size/\o= .string x/\i= .int .i64 k/\x.size=8 * k/\Db x/\Aa w wr) (fun _ i _=>s.size - (intOf i).toNat)
 case atStart=>exact ⟨ByteArray.empty,0,jo,rfl,rfl,rfl,LM,jD _⟩
 case round=>
  obtain ⟨x,k,F,rfl,rfl,c,a,g⟩:=hrel;obtain ⟨q,r,t,u⟩:=m.later g;by_cases z:k<s.size
  .have G:=Km s[k];have A:x.size<=8796093022208:=jo
   have B:Hid (x.size=8 * k):=c;clear c;go_wp2_with fail;refine (JK _ _ _ ji ji).mono ?_;rintro e H ⟨y,rfl,C,l,b⟩;have D:y.size=8:=by simpa using l
   clear l;go_wp2;go_roundw
   case rel=>exact ⟨_,k+1,jo,rfl,by go_num,by have:=B.out;simp;omega,Ib a b,jq⟩
   case measure=>simp [intOf];omega
  .have f:Hid (x.size=8 * s.size):=by
    have:k=s.size:=jo
    subst this;exact c
   clear c
   go_wp2
   go_ret
   exact ⟨_,ByteArray.empty,sh,rfl,(Ar.of_bel g).step_set _,Aq.set0 ⟨q,r,t,u⟩ _,_,rfl,Nat.zero_le _,rfl,a,f.out⟩
end Go.Proofs.YtpapdkhjdelfcaaGreat
