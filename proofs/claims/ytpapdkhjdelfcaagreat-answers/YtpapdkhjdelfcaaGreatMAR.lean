import Derived.Test.YtpapdkhjdelfcaaGreatMAQ
namespace Go.Proofs.YtpapdkhjdelfcaaGreat
open Go.RowKit
set_option maxRecDepth 100000
set_option maxHeartbeats 4000000
def CA (T:List TP) (n:Nat):Nat->Nat
 |0=>0
 |i+1=>match T[i]? with
  |some p=>if n<=p.1 then CA T n i else i+1
  |none=>i+1
def Dm (T:List TP) (p:TP):List TP:=if (T[CA T p.1 T.length]?).map Prod.fst=some p.1 then T.set (CA T p.1 T.length) p else T.take (CA T p.1 T.length)++p::T.drop (CA T p.1 T.length)
theorem Mo (T:List TP) (n:Nat):∀i,CA T n i<=i
 |0=>jH _
 |i+1=>by
  rw [CA];have:=Mo T n i;split
  .split <;>omega
  .omega
theorem Nv {T L:List TP} {i:Nat} {p:TP} (h:Jh T i L) (b:i<=T.length):L.set i p=T.take i++p::T.drop i:=by
 obtain ⟨l,c,d⟩:=h;apply List.ext_getElem?;intro j;by_cases f:j=i
 .subst f;rw [List.getElem?_set_self jo,List.getElem?_append_right (by rw [jk];omega),jk,Nat.min_eq_left b];simp
 .rw [List.getElem?_set_ne jo];by_cases a:j<i
  .rw [c j a,List.getElem?_append_left (by rw [jk];omega),List.getElem?_take_of_lt a]
  .obtain ⟨k,rfl⟩:∃k,j=k+1:=⟨j - 1,jo⟩;rw [List.getElem?_append_right (by rw [jk];omega),jk,Nat.min_eq_left b,show k+1 - i=(k - i)+1 by omega,List.getElem?_cons_succ,List.getElem?_drop,show i+(k - i)=k by omega];by_cases g:k<T.length
   .exact d k jo g
   .rw [List.getElem?_eq_none jo,List.getElem?_eq_none jo]
theorem VQ {a:Array Value} {j:Nat} {u:ju} (h:a[j]?=some u):j<a.size:=by
 rcases Nat.lt_or_ge j a.size with k|k
 .exact k
 .rw [Array.getElem?_eq_none k] at h;cases h
theorem Jk {a:Array Value} {j:Nat} {u v:ju} (h:a[j]?=some u):(a.setIfInBounds j v)[j]?=some v:=by
 have:=VQ h;simp [this]
theorem N1 {a:Array Value} {j:Nat} {u:ju} (h:a[j]?=some u):a.setIfInBounds j u=a:=by
 apply Array.ext_getElem?;intro k;by_cases b:k=j
 .subst b;rw [Jk h,h]
 .rw [Array.getElem?_setIfInBounds_ne jo]
def Ro (q:Nat) (tq:TypeId) (c:Array Value) (T:List TP) (b:ju) (w:jj) (e:Ending) (w':jj):Prop:=
 ∃a,e= .returned (.tuple #[])/\Ae q tq (c.setIfInBounds 13 a) w'/\AN w' a T/\Ab (q::gl b) w w'/\(a.ownBlock=b.ownBlock\/∃g,a.ownBlock=some g/\w.heap.size<=g)
theorem N3 (q:Nat) (tq:TypeId) (cs:Array Value) (T:List TP) (n:Nat) (b:jy) (vT:ju) (w:jj) (hQ:Ae q tq cs w) (ai:cs[13]?=some vT) (hT:AN w vT T) (hl:T.length<=65536) (J:tq≠228):
  Calls Tryz.prog 196 #[.pointer (some ⟨q,10,none⟩),.agg #[.int .i64 (n:Int),.string (Ai b)]] w (Ro q tq cs (Dm T (n,b)) vT w):=by
 obtain ⟨O,aj⟩:∃O,O=w.alloc (.cells #[.int .i64 (n:Int),.string (Ai b)] 228):=⟨_,rfl⟩;have ar:Aa w O:=by rw [aj];exact (jD w).step_alloc _
 have au:Ae w.heap.size 228 #[.int .i64 (n:Int),.string (Ai b)] O:=by rw [aj];exact Ae.new _ _ _
 have av:=hQ.bel ar;have aw:=hT.later ar;have ba:=hQ.cell 13 ai;have br:q≠w.heap.size:=by have:=hQ.lt;omega
 have p0:=au.cell 0 rfl;have p1:=au.cell 1 rfl;have ax:=av.cell 13 ai;have ak:=fun k h=>MI q tq cs T k vT O av ai aw hl h J
 have aa:Hid (∀g,vT.ownBlock=some g->g<w.heap.size):=fun g hg=>(World.ownsRow.lt hT g hg).2
 obtain ⟨ao,cap,rfl,hc⟩:=aw.open;have al:=Mo T n T.length;have z:Hid (Dm T (n,b)=if (T[CA T n T.length]?).map Prod.fst=some n then T.set (CA T n T.length) (n,b) else T.take (CA T n T.length)++(n,b)::T.drop (CA T n T.length)):=rfl;obtain ⟨i,ay⟩:∃i,i=CA T n T.length:=⟨_,rfl⟩;rw [<-ay] at al z;have bb:=jp ay;have ab:=jp av;have ac:=jp aw;have ad:=jp au;have I:=jp ar;have P:=jp ai;have bc:O.heap.size=w.heap.size+1:=by rw [aj];simp
 have bd:=jp bc;have bv:=hQ.lt;clear ay hQ hT av aw au ar ai bc;go_enter Tryz.func196,Tryz.ntmps196;go_wp2_with fail;rw [<-aj];clear aj ba;go_loopg [4] T.length (fun r d wr=>Aa O wr/\∃k:Nat,r=k/\k<=T.length/\d= .int .i64 (k:Int)/\CA T n T.length=CA T n k)
 case atStart=>exact ⟨jD _,T.length,rfl,jH _,rfl,rfl⟩
 case round=>
  obtain ⟨f,k,hr,hk,rfl,hI⟩:=hrel;by_cases be:k=0
  .have am:i=k:=by rw [bb.out,hI,be];rfl
   have bf:decide ((0:Int)<(k:Int))=false:=jK jo;have bg:decide (0<k)=false:=jK jo;clear hI be;obtain rfl:i=k:=am;have bh:=f.cell ax;have r0:=f.cell p0;have r1:=f.cell p1;have bl:w.heap.size<wr.heap.size:=by have:=f.size;have:=bd.out;omega
   by_cases m:(T[i]?).map Prod.fst=some n
   .rw [if_pos m] at z
    have v:i<T.length:=by
     rcases Nat.lt_or_ge i T.length with h|h
     .exact h
     .rw [List.getElem?_eq_none h] at m;cases m
    obtain ⟨g,rfl,e0,e1⟩:=hc i v;have hx:T[i].1=n:=by simpa [List.getElem?_eq_getElem v] using m
    have ae:=f.cell e0;have bm:=f.cell e1;rw [hx] at ae;have x:=jp (ac.out.later f);have bi:=x.out.free (i * 2);have bj:=x.out.free (i * 2+1);have az:g≠q:=x.out.nbox (ab.out.bel f) J;have Q:=jp (x.out.set i (n,b));have a0:=jp (ab.out.bel f);have a1:=jp f;have a2:Hid (g<w.heap.size):=aa.out g rfl;have af:(((i:Int))==(T.length:Int))=false:=by rw [jI];omega
    have a3:(((n:Int)) !=(n:Int))=false:=js
    have bn:g≠w.heap.size:=by have:=a2.out;omega
    generalize Ai T[i].2=tk at *;clear hc m hx e0 e1 ak ac;go_wp2_with fail;go_quiet (fail);go_wp2_with fail;go_quiet (fail);go_wp2_with fail;go_region
    all_goals
     go_wp2;go_end0;refine ⟨.slice (some ⟨g,0,none⟩) T.length cap,rfl,?_,?_,?_,Or.inl rfl⟩
     .rw [N1 P.out]
      repeat (first|exact a0.out|refine Ae.bel ?_ (jB (jD _))|refine Ae.bel ?_ (Aa.step_drewN (jD _) _)|refine Ae.setO ?_ az _)
     .rw [z.out]
      first|refine AN.set (x.out.later ?_) i (n,b)|refine AN.later (AN.set (x.out.later ?_) i (n,b)) (jB (jD _))
      (repeat (first|exact jD _|refine Aa.step_drewN ?_ _|refine jB ?_))
     .have h1:Ab (q::gl (.slice (some ⟨g,0,none⟩) T.length cap)) w wr:=(Ab.of_bel I.out).trans (Ab.of_bel a1.out)
      repeat (first|exact h1|refine Ab.drew ?_|refine Ab.drewN ?_ _|refine Ab.set ?_ (by simp [gl,Value.ownBlock]) _)
   .rw [if_neg m] at z
    have S:i=T.length\/∃h:i<T.length,T[i].1≠n:=by
     rcases Nat.lt_or_ge i T.length with h|h
     .exact Or.inr ⟨h,fun e=>m (by simp [List.getElem?_eq_getElem h,e])⟩
     .exact Or.inl jo
    have R:Hid (∀L,Jh T i L->L.set i (n,b)=Dm T (n,b)):=fun L h=>by rw [z.out];exact Nv h al
    have K:Hid (∀wx,Aa O wx->Calls Tryz.prog 207 #[.pointer (some ⟨q,10,none⟩),.int .i64 (i:Int)] wx (Mh q tq cs T i (.slice ao T.length cap) wx)):=fun wx h=>MI q tq cs T i _ wx (ab.out.bel h) P.out (ac.out.later h) hl al J
    have an:=jp (ad.out.bel f);clear ak m z;rcases S with N|⟨v,N⟩
    .have af:(((i:Int))==(T.length:Int))=true:=by rw [beq_iff_eq];omega
     have bo:=jp N;clear N hc;go_wp2_with fail;go_quiet (fail);go_wp2_with fail;go_quiet (fail);go_wp2_with fail;refine Calls.mono (K.out _ ?h1) ?_
     case h1=>(repeat (first|exact f|refine Aa.step_drewN ?_ _|refine jB ?_))
     rintro e w6 ⟨y,B,L,rfl,l,c,p,s,C⟩;have D:Ab (q::gl (.slice ao T.length cap)) w w6:=(Ab.of_bel (M:=q::gl (.slice ao T.length cap)) (I.out.trans (by (repeat (first|exact f|refine Aa.step_drewN ?_ _|refine jB ?_))))).trans s
     have t : Ae w.heap.size 228 #[.int .i64 (n : Int), .string (Ai b)] w6 := (ad.out.bel (by (repeat (first | exact f | refine Aa.step_drewN ?_ _ | refine jB ?_)))).but s (fun hm => by
       rcases ja.1 hm with e | e
       . omega
       . have := aa.out w.heap.size (by unfold gl at e; exact Option.mem_toList.1 e)
         omega)
     have v0:=t.cell 0 rfl;have v1:=t.cell 1 rfl;have u13:=l.cell 13 (Jk P.out);have E:y≠q:=c.nbox l J;have F:=p.1;have U:i<L.length:=jo
     obtain ⟨a4,ap,hv,G⟩:=c.open;simp only [Value.slice.injEq] at hv;obtain ⟨rfl, -,rfl⟩:=hv;obtain ⟨g',V,d0,d1⟩:=G i U;cases V;have a5:=c.free (i * 2);have a6:=c.free (i * 2+1);have Q:=jp (c.set i (n,b));rw [R.out L p] at Q;have X:=jp l;have Y:=jp D
     have H:Hid (some y=(Value.slice ao T.length cap).ownBlock\/w.heap.size<=y):=by
      rcases C with h|h
      .exact Or.inl h
      .right;have h8:=I.out.size;have h9:O.heap.size<=_:=Aa.size (a:=O) (by (repeat (first|exact f|refine Aa.step_drewN ?_ _|refine jB ?_)));exact jX h8 (jX h9 h)
     have a7:i<T.length+1:=jo
     have a8:=jp F;generalize L[i].1=lx at *;generalize Ai L[i].2=ly at *;clear G s D t l c p C F K an;go_wp2_with fail;go_region
     all_goals
      go_wp2;go_end0
      have Z:∀(W:jj) (o:Nat) (u:ju),Ab (q::gl (.slice ao T.length cap)) w W->Ab (q::gl (.slice ao T.length cap)) w (W.setCell ⟨y,o,none⟩ u):=fun W o u h=>by
       rcases H.out with e|e
       .exact h.set (by unfold gl;rw [<-e];simp) u
       .exact h.setN e u
      refine ⟨.slice (some ⟨y,0,none⟩) (T.length+1) B,rfl,?_,?_,?_,?_⟩
      .repeat (first|exact X.out|refine Ae.bel ?_ (jB (jD _))|refine Ae.bel ?_ (Aa.step_drewN (jD _) _)|refine Ae.setO ?_ E _)
      .first|exact Q.out|exact Q.out.later (jB (jD _))
      .repeat (first|exact Y.out|refine Ab.drew ?_|refine Ab.drewN ?_ _|refine Z _ _ _ ?_)
      .rcases H.out with e|e
       .exact Or.inl e
       .exact Or.inr ⟨y,rfl,e⟩
    .skip;obtain ⟨g,rfl,e0,e1⟩:=hc i v;have ae:=f.cell e0;have af:(((i:Int))==(T.length:Int))=false:=by rw [jI];omega
     have a3:((T[i].1:Int) !=(n:Int))=true:=by rw [bne_iff_ne];omega
     clear N hc e0 e1;generalize T[i].1=xk at *;go_wp2_with fail;go_quiet (fail);go_wp2_with fail;go_quiet (fail);go_wp2_with fail;refine Calls.mono (K.out _ ?h1) ?_
     case h1=>(repeat (first|exact f|refine Aa.step_drewN ?_ _|refine jB ?_))
     rintro e w6 ⟨y,B,L,rfl,l,c,p,s,C⟩;have D:Ab (q::gl (.slice (some ⟨g,0,none⟩) T.length cap)) w w6:=(Ab.of_bel (M:=q::gl (.slice (some ⟨g,0,none⟩) T.length cap)) (I.out.trans (by (repeat (first|exact f|refine Aa.step_drewN ?_ _|refine jB ?_))))).trans s
     have t : Ae w.heap.size 228 #[.int .i64 (n : Int), .string (Ai b)] w6 := (ad.out.bel (by (repeat (first | exact f | refine Aa.step_drewN ?_ _ | refine jB ?_)))).but s (fun hm => by
       rcases ja.1 hm with e | e
       . omega
       . have := aa.out w.heap.size (by unfold gl at e; exact Option.mem_toList.1 e)
         omega)
     have v0:=t.cell 0 rfl;have v1:=t.cell 1 rfl;have u13:=l.cell 13 (Jk P.out);have E:y≠q:=c.nbox l J;have F:=p.1;have U:i<L.length:=jo
     obtain ⟨a4,ap,hv,G⟩:=c.open;simp only [Value.slice.injEq] at hv;obtain ⟨rfl, -,rfl⟩:=hv;obtain ⟨g',V,d0,d1⟩:=G i U;cases V;have a5:=c.free (i * 2);have a6:=c.free (i * 2+1);have Q:=jp (c.set i (n,b));rw [R.out L p] at Q;have X:=jp l;have Y:=jp D
     have H:Hid (some y=(Value.slice (some ⟨g,0,none⟩) T.length cap).ownBlock\/w.heap.size<=y):=by
      rcases C with h|h
      .exact Or.inl h
      .right;have h8:=I.out.size;have h9:O.heap.size<=_:=Aa.size (a:=O) (by (repeat (first|exact f|refine Aa.step_drewN ?_ _|refine jB ?_)));exact jX h8 (jX h9 h)
     have a7:i<T.length+1:=jo
     have a8:=jp F;generalize L[i].1=lx at *;generalize Ai L[i].2=ly at *;clear G s D t l c p C F K an;go_wp2_with fail;go_region
     all_goals
      go_wp2;go_end0
      have Z:∀(W:jj) (o:Nat) (u:ju),Ab (q::gl (.slice (some ⟨g,0,none⟩) T.length cap)) w W->Ab (q::gl (.slice (some ⟨g,0,none⟩) T.length cap)) w (W.setCell ⟨y,o,none⟩ u):=fun W o u h=>by
       rcases H.out with e|e
       .exact h.set (by unfold gl;rw [<-e];simp) u
       .exact h.setN e u
      refine ⟨.slice (some ⟨y,0,none⟩) (T.length+1) B,rfl,?_,?_,?_,?_⟩
      .repeat (first|exact X.out|refine Ae.bel ?_ (jB (jD _))|refine Ae.bel ?_ (Aa.step_drewN (jD _) _)|refine Ae.setO ?_ E _)
      .first|exact Q.out|exact Q.out.later (jB (jD _))
      .repeat (first|exact Y.out|refine Ab.drew ?_|refine Ab.drewN ?_ _|refine Z _ _ _ ?_)
      .rcases H.out with e|e
       .exact Or.inl e
       .exact Or.inr ⟨y,rfl,e⟩
  .obtain ⟨A,rfl⟩:∃A,k=A+1:=⟨k - 1,jo⟩;have aq:A<T.length:=jo
   have ag:CA T n (A+1)=if n<=T[A].1 then CA T n A else A+1:=by rw [CA,jG aq]
   by_cases ah:n<=T[A].1
   .rw [if_pos ah] at ag;obtain ⟨g,rfl,e0,e1⟩:=hc A aq;have ae:=f.cell e0;have bh:=f.cell ax;have r0:=f.cell p0;have bf:decide ((0:Int)<((A+1:Nat):Int))=true:=jL jo;have af:decide ((n:Int)<=(T[A].1:Int))=true:=jL jo;have bs:decide (n<=T[A].1)=true:=jL ah;have bw:IntKind.i64.wrap (A:Int)=(A:Int):=by rw [IntKind.wrap_i64];omega
    have bp:=jp (hI.trans ag);clear ag hI ah hc e0 e1 z ak;generalize T[A].1=xk at *;go_wp2_with fail;go_quiet (fail);go_wp2;go_roundg A
    case measure=>omega
    case rel=>exact ⟨jq,A,rfl,jo,by go_num,bp.out⟩
   .rw [if_neg ah] at ag;have am:i=A+1:=by rw [bb.out,hI,ag]
    obtain ⟨g,rfl,y0,y1⟩:=hc A aq;have bx:=f.cell y0;have bf:decide ((0:Int)<(i:Int))=true:=jL jo;have bg:decide (0<i)=true:=jL jo;have bz:decide ((n:Int)<=(T[A].1:Int))=false:=jK jo;have bt:decide (n<=T[A].1)=false:=jK ah;have b0:IntKind.i64.wrap ((i:Int) - 1)=(A:Int):=by rw [am,IntKind.wrap_i64];omega
    have bu:(i:Int) - 1=(A:Int):=jo
    have b1:=jp am;have bk:((A+1:Nat):Int)=(i:Int):=jo
    rw [bk];clear hI ag ah y0 y1 am hr hk bk;generalize bq:T[A].1=xk at *;clear bq;have bh:=f.cell ax;have r0:=f.cell p0;have r1:=f.cell p1;have bl:w.heap.size<wr.heap.size:=by have:=f.size;have:=bd.out;omega
    by_cases m:(T[i]?).map Prod.fst=some n
    .rw [if_pos m] at z
     have v:i<T.length:=by
      rcases Nat.lt_or_ge i T.length with h|h
      .exact h
      .rw [List.getElem?_eq_none h] at m;cases m
     obtain ⟨g',a9,e0,e1⟩:=hc i v;obtain rfl:g=g':=by simpa using a9
     have hx:T[i].1=n:=by simpa [List.getElem?_eq_getElem v] using m
     have ae:=f.cell e0;have bm:=f.cell e1;rw [hx] at ae;have x:=jp (ac.out.later f);have bi:=x.out.free (i * 2);have bj:=x.out.free (i * 2+1);have az:g≠q:=x.out.nbox (ab.out.bel f) J;have Q:=jp (x.out.set i (n,b));have a0:=jp (ab.out.bel f);have a1:=jp f;have a2:Hid (g<w.heap.size):=aa.out g rfl;have af:(((i:Int))==(T.length:Int))=false:=by rw [jI];omega
     have a3:(((n:Int)) !=(n:Int))=false:=js
     have bn:g≠w.heap.size:=by have:=a2.out;omega
     generalize Ai T[i].2=tk at *;clear hc m hx e0 e1 ak ac;go_wp2_with fail;go_quiet (fail);go_wp2_with fail;go_quiet (fail);go_wp2_with fail;go_region
     all_goals
      go_wp2;go_end0;refine ⟨.slice (some ⟨g,0,none⟩) T.length cap,rfl,?_,?_,?_,Or.inl rfl⟩
      .rw [N1 P.out]
       repeat (first|exact a0.out|refine Ae.bel ?_ (jB (jD _))|refine Ae.bel ?_ (Aa.step_drewN (jD _) _)|refine Ae.setO ?_ az _)
      .rw [z.out]
       first|refine AN.set (x.out.later ?_) i (n,b)|refine AN.later (AN.set (x.out.later ?_) i (n,b)) (jB (jD _))
       (repeat (first|exact jD _|refine Aa.step_drewN ?_ _|refine jB ?_))
      .have h1:Ab (q::gl (.slice (some ⟨g,0,none⟩) T.length cap)) w wr:=(Ab.of_bel I.out).trans (Ab.of_bel a1.out)
       repeat (first|exact h1|refine Ab.drew ?_|refine Ab.drewN ?_ _|refine Ab.set ?_ (by simp [gl,Value.ownBlock]) _)
    .rw [if_neg m] at z
     have S:i=T.length\/∃h:i<T.length,T[i].1≠n:=by
      rcases Nat.lt_or_ge i T.length with h|h
      .exact Or.inr ⟨h,fun e=>m (by simp [List.getElem?_eq_getElem h,e])⟩
      .exact Or.inl jo
     have R:Hid (∀L,Jh T i L->L.set i (n,b)=Dm T (n,b)):=fun L h=>by rw [z.out];exact Nv h al
     have K:Hid (∀wx,Aa O wx->Calls Tryz.prog 207 #[.pointer (some ⟨q,10,none⟩),.int .i64 (i:Int)] wx (Mh q tq cs T i (.slice (some ⟨g,0,none⟩) T.length cap) wx)):=fun wx h=>MI q tq cs T i _ wx (ab.out.bel h) P.out (ac.out.later h) hl al J
     have an:=jp (ad.out.bel f);clear ak m z;rcases S with N|⟨v,N⟩
     .have af:(((i:Int))==(T.length:Int))=true:=by rw [beq_iff_eq];omega
      have bo:=jp N;clear N hc;go_wp2_with fail;go_quiet (fail);go_wp2_with fail;go_quiet (fail);go_wp2_with fail;refine Calls.mono (K.out _ ?h1) ?_
      case h1=>(repeat (first|exact f|refine Aa.step_drewN ?_ _|refine jB ?_))
      rintro e w6 ⟨y,B,L,rfl,l,c,p,s,C⟩;have D:Ab (q::gl (.slice (some ⟨g,0,none⟩) T.length cap)) w w6:=(Ab.of_bel (M:=q::gl (.slice (some ⟨g,0,none⟩) T.length cap)) (I.out.trans (by (repeat (first|exact f|refine Aa.step_drewN ?_ _|refine jB ?_))))).trans s
      have t : Ae w.heap.size 228 #[.int .i64 (n : Int), .string (Ai b)] w6 := (ad.out.bel (by (repeat (first | exact f | refine Aa.step_drewN ?_ _ | refine jB ?_)))).but s (fun hm => by
        rcases ja.1 hm with e | e
        . omega
        . have := aa.out w.heap.size (by unfold gl at e; exact Option.mem_toList.1 e)
          omega)
      have v0:=t.cell 0 rfl;have v1:=t.cell 1 rfl;have u13:=l.cell 13 (Jk P.out);have E:y≠q:=c.nbox l J;have F:=p.1;have U:i<L.length:=jo
      obtain ⟨a4,ap,hv,G⟩:=c.open;simp only [Value.slice.injEq] at hv;obtain ⟨rfl, -,rfl⟩:=hv;obtain ⟨g',V,d0,d1⟩:=G i U;cases V;have a5:=c.free (i * 2);have a6:=c.free (i * 2+1);have Q:=jp (c.set i (n,b));rw [R.out L p] at Q;have X:=jp l;have Y:=jp D
      have H:Hid (some y=(Value.slice (some ⟨g,0,none⟩) T.length cap).ownBlock\/w.heap.size<=y):=by
       rcases C with h|h
       .exact Or.inl h
       .right;have h8:=I.out.size;have h9:O.heap.size<=_:=Aa.size (a:=O) (by (repeat (first|exact f|refine Aa.step_drewN ?_ _|refine jB ?_)));exact jX h8 (jX h9 h)
      have a7:i<T.length+1:=jo
      have a8:=jp F;generalize L[i].1=lx at *;generalize Ai L[i].2=ly at *;clear G s D t l c p C F K an;go_wp2_with fail;go_region
      all_goals
       go_wp2;go_end0
       have Z:∀(W:jj) (o:Nat) (u:ju),Ab (q::gl (.slice (some ⟨g,0,none⟩) T.length cap)) w W->Ab (q::gl (.slice (some ⟨g,0,none⟩) T.length cap)) w (W.setCell ⟨y,o,none⟩ u):=fun W o u h=>by
        rcases H.out with e|e
        .exact h.set (by unfold gl;rw [<-e];simp) u
        .exact h.setN e u
       refine ⟨.slice (some ⟨y,0,none⟩) (T.length+1) B,rfl,?_,?_,?_,?_⟩
       .repeat (first|exact X.out|refine Ae.bel ?_ (jB (jD _))|refine Ae.bel ?_ (Aa.step_drewN (jD _) _)|refine Ae.setO ?_ E _)
       .first|exact Q.out|exact Q.out.later (jB (jD _))
       .repeat (first|exact Y.out|refine Ab.drew ?_|refine Ab.drewN ?_ _|refine Z _ _ _ ?_)
       .rcases H.out with e|e
        .exact Or.inl e
        .exact Or.inr ⟨y,rfl,e⟩
     .skip;obtain ⟨g',a9,e0,e1⟩:=hc i v;obtain rfl:g=g':=by simpa using a9
      have ae:=f.cell e0;have af:(((i:Int))==(T.length:Int))=false:=by rw [jI];omega
      have a3:((T[i].1:Int) !=(n:Int))=true:=by rw [bne_iff_ne];omega
      clear N hc e0 e1;generalize T[i].1=xk at *;go_wp2_with fail;go_quiet (fail);go_wp2_with fail;go_quiet (fail);go_wp2_with fail;refine Calls.mono (K.out _ ?h1) ?_
      case h1=>(repeat (first|exact f|refine Aa.step_drewN ?_ _|refine jB ?_))
      rintro e w6 ⟨y,B,L,rfl,l,c,p,s,C⟩;have D:Ab (q::gl (.slice (some ⟨g,0,none⟩) T.length cap)) w w6:=(Ab.of_bel (M:=q::gl (.slice (some ⟨g,0,none⟩) T.length cap)) (I.out.trans (by (repeat (first|exact f|refine Aa.step_drewN ?_ _|refine jB ?_))))).trans s
      have t : Ae w.heap.size 228 #[.int .i64 (n : Int), .string (Ai b)] w6 := (ad.out.bel (by (repeat (first | exact f | refine Aa.step_drewN ?_ _ | refine jB ?_)))).but s (fun hm => by
        rcases ja.1 hm with e | e
        . omega
        . have := aa.out w.heap.size (by unfold gl at e; exact Option.mem_toList.1 e)
          omega)
      have v0:=t.cell 0 rfl;have v1:=t.cell 1 rfl;have u13:=l.cell 13 (Jk P.out);have E:y≠q:=c.nbox l J;have F:=p.1;have U:i<L.length:=jo
      obtain ⟨a4,ap,hv,G⟩:=c.open;simp only [Value.slice.injEq] at hv;obtain ⟨rfl, -,rfl⟩:=hv;obtain ⟨g',V,d0,d1⟩:=G i U;cases V;have a5:=c.free (i * 2);have a6:=c.free (i * 2+1);have Q:=jp (c.set i (n,b));rw [R.out L p] at Q;have X:=jp l;have Y:=jp D
      have H:Hid (some y=(Value.slice (some ⟨g,0,none⟩) T.length cap).ownBlock\/w.heap.size<=y):=by
       rcases C with h|h
       .exact Or.inl h
       .right;have h8:=I.out.size;have h9:O.heap.size<=_:=Aa.size (a:=O) (by (repeat (first|exact f|refine Aa.step_drewN ?_ _|refine jB ?_)));exact jX h8 (jX h9 h)
      have a7:i<T.length+1:=jo
      have a8:=jp F;generalize L[i].1=lx at *;generalize Ai L[i].2=ly at *;clear G s D t l c p C F K an;go_wp2_with fail;go_region
      all_goals
       go_wp2;go_end0
       have Z:∀(W:jj) (o:Nat) (u:ju),Ab (q::gl (.slice (some ⟨g,0,none⟩) T.length cap)) w W->Ab (q::gl (.slice (some ⟨g,0,none⟩) T.length cap)) w (W.setCell ⟨y,o,none⟩ u):=fun W o u h=>by
        rcases H.out with e|e
        .exact h.set (by unfold gl;rw [<-e];simp) u
        .exact h.setN e u
       refine ⟨.slice (some ⟨y,0,none⟩) (T.length+1) B,rfl,?_,?_,?_,?_⟩
       .repeat (first|exact X.out|refine Ae.bel ?_ (jB (jD _))|refine Ae.bel ?_ (Aa.step_drewN (jD _) _)|refine Ae.setO ?_ E _)
       .first|exact Q.out|exact Q.out.later (jB (jD _))
       .repeat (first|exact Y.out|refine Ab.drew ?_|refine Ab.drewN ?_ _|refine Z _ _ _ ?_)
       .rcases H.out with e|e
        .exact Or.inl e
        .exact Or.inr ⟨y,rfl,e⟩
def BD (fm g:Nat) (c:Ac) (a b:ju) (cg cf d:Nat) (f:ju) (i:Bool):Array Value:=#[.int .i64 (fm:Int),.int .i64 (g:Int),.int .i64 c.alg,.int .i64 c.slots,.int .i64 c.points,.int .i64 c.probes,.string c.key,.int .i64 c.formats,a,b,.int .i64 (cg:Int),.int .i64 (cf:Int),.int .i64 (d:Int),f,.bool i]
def LJ:Ac:=⟨0,0,0,0,⟨#[]⟩,0⟩
def FW (fm:Nat):Array Value:=BD fm 0 LJ (.slice none 0 0) (.slice none 0 0) 0 0 0 (.slice none 0 0) false
def Xy (fm:Nat) (w:jj) (e:Ending) (w':jj):Prop:=e= .returned (.pointer (some ⟨w.heap.size,0,none⟩))/\Aa w w'/\w.heap.size<w'.heap.size/\Ae w.heap.size 208 (FW fm) w'
theorem Qp (fm:Nat) (w:jj):Calls Tryz.prog 118 #[.int .i64 (fm:Int)] w (Xy fm w):=by
 have HX:=jp (Ae.new w 208 (FW fm));unfold FW BD LJ at HX;go_enter Tryz.func118,Tryz.ntmps118;go_wp2;go_ret;exact ⟨rfl,(jD w).step_alloc _,js,HX.out⟩
def Ix (g:Nat) (a:Bool):Int×Int:=((g:Int),if a then 11 else 0)
def F4 (w:jj) (x:Int×Int) (e:Ending) (w':jj):Prop:=e= .returned (.tuple #[.int .i64 x.1,.int .i64 x.2])/\Aa w w'
theorem YN (q fm g:Nat) (c:Ac) (b d:ju) (cg cf f:Nat) (i:ju) (a:Bool) (w:jj) (h:Ae q 208 (BD fm g c b d cg cf f i a) w):
  Calls Tryz.prog 137 #[.pointer (some ⟨q,0,none⟩)] w (F4 w (Ix g a)):=by
 unfold BD at h;have l:=h.cell 1 rfl;have k:=h.cell 14 rfl;clear h;unfold Ix;cases a
 .go_enter Tryz.func137,Tryz.ntmps137;go_wp2;go_ret2;exact ⟨rfl,jq⟩
 .go_enter Tryz.func137,Tryz.ntmps137;go_wp2;go_ret2;exact ⟨rfl,jq⟩
def IR (g:Nat) (c:Ac) (B:List BK) (E:List EI) (k:jt):ByteArray×Int:=if g=0 then (⟨#[]⟩,7) else GR c B E k
theorem XZ (q fm g:Nat) (c:Ac) (d f:ju) (cg cf o:Nat) (p:ju) (r:Bool) (B:List BK) (E:List EI) (k:jt) (w:jj) (h:Ae q 208 (BD fm g c d f cg cf o p r) w) (s:Am w d B) (t:AR w f E) (a:E.length<=65536) (i:g≠0->c.TOK) (u:k.size<=4611686018427386000):
  Calls Tryz.prog 138 #[.pointer (some ⟨q,0,none⟩),.string k] w (EH w (IR g c B E k)):=by
 unfold BD at h;have n:=h.cell 1 rfl;unfold IR;by_cases l:g=0
 .subst l;rw [if_pos rfl];replace n:w.cell? ⟨q,1,none⟩=some (.int .i64 0):=n;clear h i;go_enter Tryz.func138,Tryz.ntmps138;go_wp2;go_ret2;exact ⟨rfl,jq⟩
 .rw [if_neg l];have H:=jp (Vh q c d f B E k w ⟨⟨h.cell 2 rfl,h.cell 3 rfl,h.cell 4 rfl,h.cell 5 rfl,h.cell 6 rfl,h.cell 7 rfl⟩,h.cell 8 rfl,h.cell 9 rfl⟩ s t a (i l) u);have v:((g:Int)==0)=false:=by rw [jI];omega
  clear h i;go_enter Tryz.func138,Tryz.ntmps138;go_wp2_with fail;refine H.out.mono ?_;rintro e x ⟨rfl,b⟩;have m:=jp b;clear b H;go_wp2;go_ret2;exact ⟨rfl,m.out⟩
def SC (q:Nat) (tq:TypeId) (a:Array Value) (w:jj) (e:Ending) (w':jj):Prop:=e= .returned (.tuple #[])/\Ab [q] w w'/\Ae q tq a w'
theorem Wh (q fm g:Nat) (c:Ac) (i f:ju) (cg cf d:Nat) (b:ju) (a:Bool) (w:jj) (h:Ae q 208 (BD fm g c i f cg cf d b a) w):
  Calls Tryz.prog 136 #[.pointer (some ⟨q,0,none⟩)] w (SC q 208 (FW fm) w):=by
 unfold BD at h;have HX:=jp h;have K:=h.cell 0 rfl;have L:=h.free 0;have M:=h.cell 1 rfl;have N:=h.free 1;have O:=h.cell 2 rfl;have P:=h.free 2;have Q:=h.cell 3 rfl;have R:=h.free 3;have S:=h.cell 4 rfl;have T:=h.free 4;have U:=h.cell 5 rfl;have V:=h.free 5;have W:=h.cell 6 rfl;have X:=h.free 6;have Y:=h.cell 7 rfl;have Z:=h.free 7;have c8:=h.cell 8 rfl;have f8:=h.free 8;have c9:=h.cell 9 rfl;have f9:=h.free 9;have p:=h.cell 10 rfl;have r:=h.free 10;have s:=h.cell 11 rfl;have t:=h.free 11;have u:=h.cell 12 rfl;have v:=h.free 12;have x:=h.cell 13 rfl;have y:=h.free 13;have z:=h.cell 14 rfl;have A:=h.free 14;clear h;go_enter Tryz.func136,Tryz.ntmps136;go_wp2;go_end0;refine ⟨rfl,?_,?_⟩
 .iterate 14 (refine Ab.set ?_ js _)
  exact Ab.refl _ _
 .have x0:=HX.out;have B:=x0.set 1 (.int .i64 0) (cs':=#[.int .i64 (fm:Int),.int .i64 0,.int .i64 c.alg,.int .i64 c.slots,.int .i64 c.points,.int .i64 c.probes,.string c.key,.int .i64 c.formats,i,f,.int .i64 (cg:Int),.int .i64 (cf:Int),.int .i64 (d:Int),b,.bool a]) rfl;have C:=B.set 2 (.int .i64 0) (cs':=#[.int .i64 (fm:Int),.int .i64 0,.int .i64 0,.int .i64 c.slots,.int .i64 c.points,.int .i64 c.probes,.string c.key,.int .i64 c.formats,i,f,.int .i64 (cg:Int),.int .i64 (cf:Int),.int .i64 (d:Int),b,.bool a]) rfl;have D:=C.set 3 (.int .i64 0) (cs':=#[.int .i64 (fm:Int),.int .i64 0,.int .i64 0,.int .i64 0,.int .i64 c.points,.int .i64 c.probes,.string c.key,.int .i64 c.formats,i,f,.int .i64 (cg:Int),.int .i64 (cf:Int),.int .i64 (d:Int),b,.bool a]) rfl;have E:=D.set 4 (.int .i64 0) (cs':=#[.int .i64 (fm:Int),.int .i64 0,.int .i64 0,.int .i64 0,.int .i64 0,.int .i64 c.probes,.string c.key,.int .i64 c.formats,i,f,.int .i64 (cg:Int),.int .i64 (cf:Int),.int .i64 (d:Int),b,.bool a]) rfl;have F:=E.set 5 (.int .i64 0) (cs':=#[.int .i64 (fm:Int),.int .i64 0,.int .i64 0,.int .i64 0,.int .i64 0,.int .i64 0,.string c.key,.int .i64 c.formats,i,f,.int .i64 (cg:Int),.int .i64 (cf:Int),.int .i64 (d:Int),b,.bool a]) rfl;have G:=F.set 6 (.string ⟨#[]⟩) (cs':=#[.int .i64 (fm:Int),.int .i64 0,.int .i64 0,.int .i64 0,.int .i64 0,.int .i64 0,.string ⟨#[]⟩,.int .i64 c.formats,i,f,.int .i64 (cg:Int),.int .i64 (cf:Int),.int .i64 (d:Int),b,.bool a]) rfl;have H:=G.set 7 (.int .i64 0) (cs':=#[.int .i64 (fm:Int),.int .i64 0,.int .i64 0,.int .i64 0,.int .i64 0,.int .i64 0,.string ⟨#[]⟩,.int .i64 0,i,f,.int .i64 (cg:Int),.int .i64 (cf:Int),.int .i64 (d:Int),b,.bool a]) rfl;have I:=H.set 8 (.slice none 0 0) (cs':=#[.int .i64 (fm:Int),.int .i64 0,.int .i64 0,.int .i64 0,.int .i64 0,.int .i64 0,.string ⟨#[]⟩,.int .i64 0,.slice none 0 0,f,.int .i64 (cg:Int),.int .i64 (cf:Int),.int .i64 (d:Int),b,.bool a]) rfl;have J:=I.set 9 (.slice none 0 0) (cs':=#[.int .i64 (fm:Int),.int .i64 0,.int .i64 0,.int .i64 0,.int .i64 0,.int .i64 0,.string ⟨#[]⟩,.int .i64 0,.slice none 0 0,.slice none 0 0,.int .i64 (cg:Int),.int .i64 (cf:Int),.int .i64 (d:Int),b,.bool a]) rfl;have k:=J.set 10 (.int .i64 0) (cs':=#[.int .i64 (fm:Int),.int .i64 0,.int .i64 0,.int .i64 0,.int .i64 0,.int .i64 0,.string ⟨#[]⟩,.int .i64 0,.slice none 0 0,.slice none 0 0,.int .i64 0,.int .i64 (cf:Int),.int .i64 (d:Int),b,.bool a]) rfl;have l:=k.set 11 (.int .i64 0) (cs':=#[.int .i64 (fm:Int),.int .i64 0,.int .i64 0,.int .i64 0,.int .i64 0,.int .i64 0,.string ⟨#[]⟩,.int .i64 0,.slice none 0 0,.slice none 0 0,.int .i64 0,.int .i64 0,.int .i64 (d:Int),b,.bool a]) rfl;have m:=l.set 12 (.int .i64 0) (cs':=#[.int .i64 (fm:Int),.int .i64 0,.int .i64 0,.int .i64 0,.int .i64 0,.int .i64 0,.string ⟨#[]⟩,.int .i64 0,.slice none 0 0,.slice none 0 0,.int .i64 0,.int .i64 0,.int .i64 0,b,.bool a]) rfl
  have n:=m.set 13 (.slice none 0 0) (cs':=#[.int .i64 (fm:Int),.int .i64 0,.int .i64 0,.int .i64 0,.int .i64 0,.int .i64 0,.string ⟨#[]⟩,.int .i64 0,.slice none 0 0,.slice none 0 0,.int .i64 0,.int .i64 0,.int .i64 0,.slice none 0 0,.bool a]) rfl;have o:=n.set 14 (.bool false) (cs':=#[.int .i64 (fm:Int),.int .i64 0,.int .i64 0,.int .i64 0,.int .i64 0,.int .i64 0,.string ⟨#[]⟩,.int .i64 0,.slice none 0 0,.slice none 0 0,.int .i64 0,.int .i64 0,.int .i64 0,.slice none 0 0,.bool false]) rfl;exact o
def IQ (fm g cg:Nat) (a:Bl):Bool:=decide (g<a.2.1) && decide (cg<=a.2.1) && decide (a.2.2.2.2.1<a.2.2.2.1) && !((a.2.2.1 &&& fm)==0)
def GZ (a:Bl):Array Value:=#[.int .i64 (a.1:Int),.int .i64 (a.2.1:Int),.int .i64 (a.2.2.1:Int),.int .i64 (a.2.2.2.1:Int),.int .i64 (a.2.2.2.2.1:Int),.string (Ai a.2.2.2.2.2)]
theorem Nb (x y:Nat) (hx:x<256) (a:y<256):bits .and .i64 (x:Int) (y:Int)=((x &&& y:Nat):Int):=Oi x y jo jo
theorem VP (q fm g:Nat) (c:Ac) (v x:ju) (cg cf y:Nat) (A:ju) (B:Bool) (a:Bl) (w:jj) (h:Ae q 208 (BD fm g c v x cg cf y A B) w) (o:a.2.2.1<256) (l:fm<256):
  Calls Tryz.prog 195 #[.pointer (some ⟨q,0,none⟩),.agg (GZ a)] w (GX w (IQ fm g cg a)):=by
 unfold BD at h;have J:=h.cell 0 rfl;have K:=h.cell 1 rfl;have C:=h.cell 10 rfl;have D:=h.lt;have p:=Nb a.2.2.1 fm o l;unfold IQ GZ;obtain ⟨k,b,m,d,f,E⟩:=a;simp only at *;generalize r:((m &&& fm)==0)=z at *
 have F:(((m &&& fm:Nat):Int) !=0)=!z:=by
  rw [<-r];cases n:((m &&& fm)==0)
  .simp at n;simp [n]
  .simp at n;simp [n]
 generalize (m &&& fm)=L at *;generalize Ai E=M at *;clear h r o l;by_cases s:g<b
 .have G:decide ((g:Int)<(b:Int))=true:=jL jo;by_cases t:cg<=b
  .have H:decide ((cg:Int)<=(b:Int))=true:=jL jo;by_cases u:f<d
   .have I:decide ((f:Int)<(d:Int))=true:=jL jo;have i:Hid ((decide (g<b) && decide (cg<=b) && decide (f<d) && !z)=!z):=by show _=_;simp [s,t,u]
    go_enter Tryz.func195,Tryz.ntmps195;go_wp2_with fail;go_quiet (fail);go_wp2;go_ret;exact ⟨by rw [i.out];rfl,jq⟩
   .have I:decide ((f:Int)<(d:Int))=false:=jK jo;have i:Hid ((decide (g<b) && decide (cg<=b) && decide (f<d) && !z)=false):=by show _=_;simp [u]
    go_enter Tryz.func195,Tryz.ntmps195;go_wp2_with fail;go_quiet (fail);go_wp2;go_ret;exact ⟨by rw [i.out];rfl,jq⟩
  .have H:decide ((cg:Int)<=(b:Int))=false:=jK jo;have i:Hid ((decide (g<b) && decide (cg<=b) && decide (f<d) && !z)=false):=by show _=_;simp [t]
   go_enter Tryz.func195,Tryz.ntmps195;go_wp2_with fail;go_quiet (fail);go_wp2;go_ret;exact ⟨by rw [i.out];rfl,jq⟩
 .have G:decide ((g:Int)<(b:Int))=false:=jK jo;have i:Hid ((decide (g<b) && decide (cg<=b) && decide (f<d) && !z)=false):=by show _=_;simp [s]
  go_enter Tryz.func195,Tryz.ntmps195;go_wp2_with fail;go_quiet (fail);go_wp2;go_ret;exact ⟨by rw [i.out];rfl,jq⟩
end Go.Proofs.YtpapdkhjdelfcaaGreat
