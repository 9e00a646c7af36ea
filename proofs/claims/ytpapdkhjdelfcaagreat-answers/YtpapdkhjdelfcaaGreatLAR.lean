import Derived.Test.YtpapdkhjdelfcaaGreatLAQ
namespace Go.Proofs.YtpapdkhjdelfcaaGreat
open Go.RowKit
set_option maxRecDepth 100000
set_option maxHeartbeats 4000000
def CA (T:List TP) (n:Nat):Nat->Nat
 |0=>0
 |i+1=>match T[i]? with
  |some p=>if n<=p.1 then CA T n i else i+1
  |none=>i+1
def Dm (T:List TP) (p:TP):List TP:=if (T[CA T p.1 T.length]?).map Prod.fst=some p.1 then T.set (CA T p.1 T.length) p else T.take (CA T p.1 T.length)++p::T.drop (CA T p.1 T.length)
theorem Mo (T:List TP) (n:Nat):∀i,CA T n i<=i
 |0=>jH _
 |i+1=>by
  rw [CA];have:=Mo T n i;split
  .split <;>omega
  .omega
theorem Nv {T L:List TP} {i:Nat} {p:TP} (h:Jh T i L) (b:i<=T.length):L.set i p=T.take i++p::T.drop i:=by
 obtain ⟨l,c,d⟩:=h;apply List.ext_getElem?;intro j;by_cases f:j=i
 .subst f;rw [List.getElem?_set_self jo,List.getElem?_append_right (by rw [jk];omega),jk,Nat.min_eq_left b];simp
 .rw [List.getElem?_set_ne jo];by_cases a:j<i
  .rw [c j a,List.getElem?_append_left (by rw [jk];omega),List.getElem?_take_of_lt a]
  .obtain ⟨k,rfl⟩:∃k,j=k+1:=⟨j - 1,jo⟩;rw [List.getElem?_append_right (by rw [jk];omega),jk,Nat.min_eq_left b,show k+1 - i=(k - i)+1 by omega,List.getElem?_cons_succ,List.getElem?_drop,show i+(k - i)=k by omega];by_cases g:k<T.length
   .exact d k jo g
   .rw [List.getElem?_eq_none jo,List.getElem?_eq_none jo]
theorem VQ {a:Array Value} {j:Nat} {u:Value} (h:a[j]?=some u):j<a.size:=by
 rcases Nat.lt_or_ge j a.size with k|k
 .exact k
 .rw [Array.getElem?_eq_none k] at h;cases h
theorem Jk {a:Array Value} {j:Nat} {u v:Value} (h:a[j]?=some u):(a.setIfInBounds j v)[j]?=some v:=by
 have:=VQ h;simp [this]
theorem N1 {a:Array Value} {j:Nat} {u:Value} (h:a[j]?=some u):a.setIfInBounds j u=a:=by
 apply Array.ext_getElem?;intro k;by_cases b:k=j
 .subst b;rw [Jk h,h]
 .rw [Array.getElem?_setIfInBounds_ne jo]
def Ro (q:Nat) (tq:TypeId) (c:Array Value) (T:List TP) (b:Value) (w:World) (e:Ending) (w':World):Prop:=
 ∃a,e= .returned (.tuple #[])/\Ae q tq (c.setIfInBounds 13 a) w'/\AN w' a T/\Ab (q::gl b) w w'/\(a.ownBlock=b.ownBlock\/∃g,a.ownBlock=some g/\w.heap.size<=g)
theorem N3 (q:Nat) (tq:TypeId) (cs:Array Value) (T:List TP) (n:Nat) (b:List UInt8) (vT:Value) (w:World) (hQ:Ae q tq cs w) (h13:cs[13]?=some vT) (hT:AN w vT T) (hl:T.length<=65536) (htq:tq≠228):
  Calls Tryz.prog 196 #[.pointer (some ⟨q,10,none⟩),.agg #[.int .i64 (n:Int),.string (Ai b)]] w (Ro q tq cs (Dm T (n,b)) vT w):=by
 obtain ⟨W0,hW0⟩:∃W0,W0=w.alloc (.cells #[.int .i64 (n:Int),.string (Ai b)] 228):=⟨_,rfl⟩;have hb0:Aa w W0:=by rw [hW0];exact (jD w).step_alloc _
 have hP0:Ae w.heap.size 228 #[.int .i64 (n:Int),.string (Ai b)] W0:=by rw [hW0];exact Ae.new _ _ _
 have hQ0:=hQ.bel hb0;have hT0:=hT.later hb0;have c13w:=hQ.cell 13 h13;have hqnw:q≠w.heap.size:=by have:=hQ.lt;omega
 have p0:=hP0.cell 0 rfl;have p1:=hP0.cell 1 rfl;have c13:=hQ0.cell 13 h13;have hrm:=fun k h=>MI q tq cs T k vT W0 hQ0 h13 hT0 hl h htq
 have hvl:Hid (∀g,vT.ownBlock=some g->g<w.heap.size):=fun g hg=>(World.ownsRow.lt hT g hg).2
 obtain ⟨ao,cap,rfl,hc⟩:=hT0.open;have hle:=Mo T n T.length;have HLF:Hid (Dm T (n,b)=if (T[CA T n T.length]?).map Prod.fst=some n then T.set (CA T n T.length) (n,b) else T.take (CA T n T.length)++(n,b)::T.drop (CA T n T.length)):=rfl;obtain ⟨i,hid⟩:∃i,i=CA T n T.length:=⟨_,rfl⟩;rw [<-hid] at hle HLF;have HID:=jp hid;have HQ0:=jp hQ0;have HT0:=jp hT0;have HP0:=jp hP0;have HB0:=jp hb0;have H13:=jp h13;have hws:W0.heap.size=w.heap.size+1:=by rw [hW0];simp
 have HWS:=jp hws;have hql:=hQ.lt;clear hid hQ hT hQ0 hT0 hP0 hb0 h13 hws;go_enter Tryz.func196,Tryz.ntmps196;go_wp2_with fail;rw [<-hW0];clear hW0 c13w;go_loopg [4] T.length (fun r d wr=>Aa W0 wr/\∃k:Nat,r=k/\k<=T.length/\d= .int .i64 (k:Int)/\CA T n T.length=CA T n k)
 case atStart=>exact ⟨jD _,T.length,rfl,jH _,rfl,rfl⟩
 case round=>
  obtain ⟨hb,k,hr,hk,rfl,hI⟩:=hrel;by_cases hk0:k=0
  .have hIk:i=k:=by rw [HID.out,hI,hk0];rfl
   have hd0:decide ((0:Int)<(k:Int))=false:=jK jo;have hd0n:decide (0<k)=false:=jK jo;clear hI hk0;obtain rfl:i=k:=hIk;have s13:=hb.cell c13;have r0:=hb.cell p0;have r1:=hb.cell p1;have hwl:w.heap.size<wr.heap.size:=by have:=hb.size;have:=HWS.out;omega
   by_cases hin:(T[i]?).map Prod.fst=some n
   .rw [if_pos hin] at HLF
    have hilt:i<T.length:=by
     rcases Nat.lt_or_ge i T.length with h|h
     .exact h
     .rw [List.getElem?_eq_none h] at hin;cases hin
    obtain ⟨g,rfl,e0,e1⟩:=hc i hilt;have hx:T[i].1=n:=by simpa [List.getElem?_eq_getElem hilt] using hin
    have e0':=hb.cell e0;have e1':=hb.cell e1;rw [hx] at e0';have HT1:=jp (HT0.out.later hb);have hfr0:=HT1.out.free (i * 2);have hfr1:=HT1.out.free (i * 2+1);have hgq:g≠q:=HT1.out.nbox (HQ0.out.bel hb) htq;have HN:=jp (HT1.out.set i (n,b));have HQ1:=jp (HQ0.out.bel hb);have HBx:=jp hb;have hgl:Hid (g<w.heap.size):=hvl.out g rfl;have hd1:(((i:Int))==(T.length:Int))=false:=by rw [jI];omega
    have hd2:(((n:Int)) !=(n:Int))=false:=js
    have hgn:g≠w.heap.size:=by have:=hgl.out;omega
    generalize Ai T[i].2=tk at *;clear hc hin hx e0 e1 hrm HT0;go_wp2_with fail;go_quiet (fail);go_wp2_with fail;go_quiet (fail);go_wp2_with fail;go_region
    all_goals
     go_wp2;go_end0;refine ⟨.slice (some ⟨g,0,none⟩) T.length cap,rfl,?_,?_,?_,Or.inl rfl⟩
     .rw [N1 H13.out]
      repeat (first|exact HQ1.out|refine Ae.bel ?_ (jB (jD _))|refine Ae.bel ?_ (Aa.step_drewN (jD _) _)|refine Ae.setO ?_ hgq _)
     .rw [HLF.out]
      first|refine AN.set (HT1.out.later ?_) i (n,b)|refine AN.later (AN.set (HT1.out.later ?_) i (n,b)) (jB (jD _))
      (repeat (first|exact jD _|refine Aa.step_drewN ?_ _|refine jB ?_))
     .have h1:Ab (q::gl (.slice (some ⟨g,0,none⟩) T.length cap)) w wr:=(Ab.of_bel HB0.out).trans (Ab.of_bel HBx.out)
      repeat (first|exact h1|refine Ab.drew ?_|refine Ab.drewN ?_ _|refine Ab.set ?_ (by simp [gl,Value.ownBlock]) _)
   .rw [if_neg hin] at HLF
    have htest:i=T.length\/∃h:i<T.length,T[i].1≠n:=by
     rcases Nat.lt_or_ge i T.length with h|h
     .exact Or.inr ⟨h,fun e=>hin (by simp [List.getElem?_eq_getElem h,e])⟩
     .exact Or.inl jo
    have HSET:Hid (∀L,Jh T i L->L.set i (n,b)=Dm T (n,b)):=fun L h=>by rw [HLF.out];exact Nv h hle
    have HRM:Hid (∀wx,Aa W0 wx->Calls Tryz.prog 207 #[.pointer (some ⟨q,10,none⟩),.int .i64 (i:Int)] wx (Mh q tq cs T i (.slice ao T.length cap) wx)):=fun wx h=>MI q tq cs T i _ wx (HQ0.out.bel h) H13.out (HT0.out.later h) hl hle htq
    have HPx:=jp (HP0.out.bel hb);clear hrm hin HLF;rcases htest with hT1|⟨hilt,hT1⟩
    .have hd1:(((i:Int))==(T.length:Int))=true:=by rw [beq_iff_eq];omega
     have HTL:=jp hT1;clear hT1 hc;go_wp2_with fail;go_quiet (fail);go_wp2_with fail;go_quiet (fail);go_wp2_with fail;refine Calls.mono (HRM.out _ ?h1) ?_
     case h1=>(repeat (first|exact hb|refine Aa.step_drewN ?_ _|refine jB ?_))
     rintro e w6 ⟨g6,cap6,L,rfl,hQ6,hT6,hRP,hB6,hgw⟩;have hBw:Ab (q::gl (.slice ao T.length cap)) w w6:=(Ab.of_bel (M:=q::gl (.slice ao T.length cap)) (HB0.out.trans (by (repeat (first|exact hb|refine Aa.step_drewN ?_ _|refine jB ?_))))).trans hB6
     have hP6 : Ae w.heap.size 228 #[.int .i64 (n : Int), .string (Ai b)] w6 := (HP0.out.bel (by (repeat (first | exact hb | refine Aa.step_drewN ?_ _ | refine jB ?_)))).but hB6 (fun hm => by
       rcases ja.1 hm with e | e
       . omega
       . have := hvl.out w.heap.size (by unfold gl at e; exact Option.mem_toList.1 e)
         omega)
     have v0:=hP6.cell 0 rfl;have v1:=hP6.cell 1 rfl;have u13:=hQ6.cell 13 (Jk H13.out);have hgq6:g6≠q:=hT6.nbox hQ6 htq;have hLl:=hRP.1;have hiL:i<L.length:=jo
     obtain ⟨ao',cap',hv,hc6⟩:=hT6.open;simp only [Value.slice.injEq] at hv;obtain ⟨rfl, -,rfl⟩:=hv;obtain ⟨g',hg',d0,d1⟩:=hc6 i hiL;cases hg';have fr0:=hT6.free (i * 2);have fr1:=hT6.free (i * 2+1);have HN:=jp (hT6.set i (n,b));rw [HSET.out L hRP] at HN;have HQ6:=jp hQ6;have HBw:=jp hBw
     have HG6:Hid (some g6=(Value.slice ao T.length cap).ownBlock\/w.heap.size<=g6):=by
      rcases hgw with h|h
      .exact Or.inl h
      .right;have h8:=HB0.out.size;have h9:W0.heap.size<=_:=Aa.size (a:=W0) (by (repeat (first|exact hb|refine Aa.step_drewN ?_ _|refine jB ?_)));exact jX h8 (jX h9 h)
     have hiT:i<T.length+1:=jo
     have HLL:=jp hLl;generalize L[i].1=lx at *;generalize Ai L[i].2=ly at *;clear hc6 hB6 hBw hP6 hQ6 hT6 hRP hgw hLl HRM HPx;go_wp2_with fail;go_region
     all_goals
      go_wp2;go_end0
      have hbs:∀(W:World) (o:Nat) (u:Value),Ab (q::gl (.slice ao T.length cap)) w W->Ab (q::gl (.slice ao T.length cap)) w (W.setCell ⟨g6,o,none⟩ u):=fun W o u h=>by
       rcases HG6.out with e|e
       .exact h.set (by unfold gl;rw [<-e];simp) u
       .exact h.setN e u
      refine ⟨.slice (some ⟨g6,0,none⟩) (T.length+1) cap6,rfl,?_,?_,?_,?_⟩
      .repeat (first|exact HQ6.out|refine Ae.bel ?_ (jB (jD _))|refine Ae.bel ?_ (Aa.step_drewN (jD _) _)|refine Ae.setO ?_ hgq6 _)
      .first|exact HN.out|exact HN.out.later (jB (jD _))
      .repeat (first|exact HBw.out|refine Ab.drew ?_|refine Ab.drewN ?_ _|refine hbs _ _ _ ?_)
      .rcases HG6.out with e|e
       .exact Or.inl e
       .exact Or.inr ⟨g6,rfl,e⟩
    .skip;obtain ⟨g,rfl,e0,e1⟩:=hc i hilt;have e0':=hb.cell e0;have hd1:(((i:Int))==(T.length:Int))=false:=by rw [jI];omega
     have hd2:((T[i].1:Int) !=(n:Int))=true:=by rw [bne_iff_ne];omega
     clear hT1 hc e0 e1;generalize T[i].1=xk at *;go_wp2_with fail;go_quiet (fail);go_wp2_with fail;go_quiet (fail);go_wp2_with fail;refine Calls.mono (HRM.out _ ?h1) ?_
     case h1=>(repeat (first|exact hb|refine Aa.step_drewN ?_ _|refine jB ?_))
     rintro e w6 ⟨g6,cap6,L,rfl,hQ6,hT6,hRP,hB6,hgw⟩;have hBw:Ab (q::gl (.slice (some ⟨g,0,none⟩) T.length cap)) w w6:=(Ab.of_bel (M:=q::gl (.slice (some ⟨g,0,none⟩) T.length cap)) (HB0.out.trans (by (repeat (first|exact hb|refine Aa.step_drewN ?_ _|refine jB ?_))))).trans hB6
     have hP6 : Ae w.heap.size 228 #[.int .i64 (n : Int), .string (Ai b)] w6 := (HP0.out.bel (by (repeat (first | exact hb | refine Aa.step_drewN ?_ _ | refine jB ?_)))).but hB6 (fun hm => by
       rcases ja.1 hm with e | e
       . omega
       . have := hvl.out w.heap.size (by unfold gl at e; exact Option.mem_toList.1 e)
         omega)
     have v0:=hP6.cell 0 rfl;have v1:=hP6.cell 1 rfl;have u13:=hQ6.cell 13 (Jk H13.out);have hgq6:g6≠q:=hT6.nbox hQ6 htq;have hLl:=hRP.1;have hiL:i<L.length:=jo
     obtain ⟨ao',cap',hv,hc6⟩:=hT6.open;simp only [Value.slice.injEq] at hv;obtain ⟨rfl, -,rfl⟩:=hv;obtain ⟨g',hg',d0,d1⟩:=hc6 i hiL;cases hg';have fr0:=hT6.free (i * 2);have fr1:=hT6.free (i * 2+1);have HN:=jp (hT6.set i (n,b));rw [HSET.out L hRP] at HN;have HQ6:=jp hQ6;have HBw:=jp hBw
     have HG6:Hid (some g6=(Value.slice (some ⟨g,0,none⟩) T.length cap).ownBlock\/w.heap.size<=g6):=by
      rcases hgw with h|h
      .exact Or.inl h
      .right;have h8:=HB0.out.size;have h9:W0.heap.size<=_:=Aa.size (a:=W0) (by (repeat (first|exact hb|refine Aa.step_drewN ?_ _|refine jB ?_)));exact jX h8 (jX h9 h)
     have hiT:i<T.length+1:=jo
     have HLL:=jp hLl;generalize L[i].1=lx at *;generalize Ai L[i].2=ly at *;clear hc6 hB6 hBw hP6 hQ6 hT6 hRP hgw hLl HRM HPx;go_wp2_with fail;go_region
     all_goals
      go_wp2;go_end0
      have hbs:∀(W:World) (o:Nat) (u:Value),Ab (q::gl (.slice (some ⟨g,0,none⟩) T.length cap)) w W->Ab (q::gl (.slice (some ⟨g,0,none⟩) T.length cap)) w (W.setCell ⟨g6,o,none⟩ u):=fun W o u h=>by
       rcases HG6.out with e|e
       .exact h.set (by unfold gl;rw [<-e];simp) u
       .exact h.setN e u
      refine ⟨.slice (some ⟨g6,0,none⟩) (T.length+1) cap6,rfl,?_,?_,?_,?_⟩
      .repeat (first|exact HQ6.out|refine Ae.bel ?_ (jB (jD _))|refine Ae.bel ?_ (Aa.step_drewN (jD _) _)|refine Ae.setO ?_ hgq6 _)
      .first|exact HN.out|exact HN.out.later (jB (jD _))
      .repeat (first|exact HBw.out|refine Ab.drew ?_|refine Ab.drewN ?_ _|refine hbs _ _ _ ?_)
      .rcases HG6.out with e|e
       .exact Or.inl e
       .exact Or.inr ⟨g6,rfl,e⟩
  .obtain ⟨k',rfl⟩:∃k',k=k'+1:=⟨k - 1,jo⟩;have hk'T:k'<T.length:=jo
   have hst:CA T n (k'+1)=if n<=T[k'].1 then CA T n k' else k'+1:=by rw [CA,jG hk'T]
   by_cases hge:n<=T[k'].1
   .rw [if_pos hge] at hst;obtain ⟨g,rfl,e0,e1⟩:=hc k' hk'T;have e0':=hb.cell e0;have s13:=hb.cell c13;have r0:=hb.cell p0;have hd0:decide ((0:Int)<((k'+1:Nat):Int))=true:=jL jo;have hd1:decide ((n:Int)<=(T[k'].1:Int))=true:=jL jo;have hd1n:decide (n<=T[k'].1)=true:=jL hge;have hwk:IntKind.i64.wrap (k':Int)=(k':Int):=by rw [IntKind.wrap_i64];omega
    have HST:=jp (hI.trans hst);clear hst hI hge hc e0 e1 HLF hrm;generalize T[k'].1=xk at *;go_wp2_with fail;go_quiet (fail);go_wp2_with fail;go_roundg k'
    case measure=>omega
    case rel=>exact ⟨jq,k',rfl,jo,by go_num,HST.out⟩
   .rw [if_neg hge] at hst;have hIk:i=k'+1:=by rw [HID.out,hI,hst]
    obtain ⟨g,rfl,y0,y1⟩:=hc k' hk'T;have y0':=hb.cell y0;have hd0:decide ((0:Int)<(i:Int))=true:=jL jo;have hd0n:decide (0<i)=true:=jL jo;have hdg:decide ((n:Int)<=(T[k'].1:Int))=false:=jK jo;have hdgn:decide (n<=T[k'].1)=false:=jK hge;have hwi:IntKind.i64.wrap ((i:Int) - 1)=(k':Int):=by rw [hIk,IntKind.wrap_i64];omega
    have hwi2:(i:Int) - 1=(k':Int):=jo
    have HIK:=jp hIk;have hki:((k'+1:Nat):Int)=(i:Int):=jo
    rw [hki];clear hI hst hge y0 y1 hIk hr hk hki;generalize hTk:T[k'].1=xk at *;clear hTk;have s13:=hb.cell c13;have r0:=hb.cell p0;have r1:=hb.cell p1;have hwl:w.heap.size<wr.heap.size:=by have:=hb.size;have:=HWS.out;omega
    by_cases hin:(T[i]?).map Prod.fst=some n
    .rw [if_pos hin] at HLF
     have hilt:i<T.length:=by
      rcases Nat.lt_or_ge i T.length with h|h
      .exact h
      .rw [List.getElem?_eq_none h] at hin;cases hin
     obtain ⟨g',hgg,e0,e1⟩:=hc i hilt;obtain rfl:g=g':=by simpa using hgg
     have hx:T[i].1=n:=by simpa [List.getElem?_eq_getElem hilt] using hin
     have e0':=hb.cell e0;have e1':=hb.cell e1;rw [hx] at e0';have HT1:=jp (HT0.out.later hb);have hfr0:=HT1.out.free (i * 2);have hfr1:=HT1.out.free (i * 2+1);have hgq:g≠q:=HT1.out.nbox (HQ0.out.bel hb) htq;have HN:=jp (HT1.out.set i (n,b));have HQ1:=jp (HQ0.out.bel hb);have HBx:=jp hb;have hgl:Hid (g<w.heap.size):=hvl.out g rfl;have hd1:(((i:Int))==(T.length:Int))=false:=by rw [jI];omega
     have hd2:(((n:Int)) !=(n:Int))=false:=js
     have hgn:g≠w.heap.size:=by have:=hgl.out;omega
     generalize Ai T[i].2=tk at *;clear hc hin hx e0 e1 hrm HT0;go_wp2_with fail;go_quiet (fail);go_wp2_with fail;go_quiet (fail);go_wp2_with fail;go_region
     all_goals
      go_wp2;go_end0;refine ⟨.slice (some ⟨g,0,none⟩) T.length cap,rfl,?_,?_,?_,Or.inl rfl⟩
      .rw [N1 H13.out]
       repeat (first|exact HQ1.out|refine Ae.bel ?_ (jB (jD _))|refine Ae.bel ?_ (Aa.step_drewN (jD _) _)|refine Ae.setO ?_ hgq _)
      .rw [HLF.out]
       first|refine AN.set (HT1.out.later ?_) i (n,b)|refine AN.later (AN.set (HT1.out.later ?_) i (n,b)) (jB (jD _))
       (repeat (first|exact jD _|refine Aa.step_drewN ?_ _|refine jB ?_))
      .have h1:Ab (q::gl (.slice (some ⟨g,0,none⟩) T.length cap)) w wr:=(Ab.of_bel HB0.out).trans (Ab.of_bel HBx.out)
       repeat (first|exact h1|refine Ab.drew ?_|refine Ab.drewN ?_ _|refine Ab.set ?_ (by simp [gl,Value.ownBlock]) _)
    .rw [if_neg hin] at HLF
     have htest:i=T.length\/∃h:i<T.length,T[i].1≠n:=by
      rcases Nat.lt_or_ge i T.length with h|h
      .exact Or.inr ⟨h,fun e=>hin (by simp [List.getElem?_eq_getElem h,e])⟩
      .exact Or.inl jo
     have HSET:Hid (∀L,Jh T i L->L.set i (n,b)=Dm T (n,b)):=fun L h=>by rw [HLF.out];exact Nv h hle
     have HRM:Hid (∀wx,Aa W0 wx->Calls Tryz.prog 207 #[.pointer (some ⟨q,10,none⟩),.int .i64 (i:Int)] wx (Mh q tq cs T i (.slice (some ⟨g,0,none⟩) T.length cap) wx)):=fun wx h=>MI q tq cs T i _ wx (HQ0.out.bel h) H13.out (HT0.out.later h) hl hle htq
     have HPx:=jp (HP0.out.bel hb);clear hrm hin HLF;rcases htest with hT1|⟨hilt,hT1⟩
     .have hd1:(((i:Int))==(T.length:Int))=true:=by rw [beq_iff_eq];omega
      have HTL:=jp hT1;clear hT1 hc;go_wp2_with fail;go_quiet (fail);go_wp2_with fail;go_quiet (fail);go_wp2_with fail;refine Calls.mono (HRM.out _ ?h1) ?_
      case h1=>(repeat (first|exact hb|refine Aa.step_drewN ?_ _|refine jB ?_))
      rintro e w6 ⟨g6,cap6,L,rfl,hQ6,hT6,hRP,hB6,hgw⟩;have hBw:Ab (q::gl (.slice (some ⟨g,0,none⟩) T.length cap)) w w6:=(Ab.of_bel (M:=q::gl (.slice (some ⟨g,0,none⟩) T.length cap)) (HB0.out.trans (by (repeat (first|exact hb|refine Aa.step_drewN ?_ _|refine jB ?_))))).trans hB6
      have hP6 : Ae w.heap.size 228 #[.int .i64 (n : Int), .string (Ai b)] w6 := (HP0.out.bel (by (repeat (first | exact hb | refine Aa.step_drewN ?_ _ | refine jB ?_)))).but hB6 (fun hm => by
        rcases ja.1 hm with e | e
        . omega
        . have := hvl.out w.heap.size (by unfold gl at e; exact Option.mem_toList.1 e)
          omega)
      have v0:=hP6.cell 0 rfl;have v1:=hP6.cell 1 rfl;have u13:=hQ6.cell 13 (Jk H13.out);have hgq6:g6≠q:=hT6.nbox hQ6 htq;have hLl:=hRP.1;have hiL:i<L.length:=jo
      obtain ⟨ao',cap',hv,hc6⟩:=hT6.open;simp only [Value.slice.injEq] at hv;obtain ⟨rfl, -,rfl⟩:=hv;obtain ⟨g',hg',d0,d1⟩:=hc6 i hiL;cases hg';have fr0:=hT6.free (i * 2);have fr1:=hT6.free (i * 2+1);have HN:=jp (hT6.set i (n,b));rw [HSET.out L hRP] at HN;have HQ6:=jp hQ6;have HBw:=jp hBw
      have HG6:Hid (some g6=(Value.slice (some ⟨g,0,none⟩) T.length cap).ownBlock\/w.heap.size<=g6):=by
       rcases hgw with h|h
       .exact Or.inl h
       .right;have h8:=HB0.out.size;have h9:W0.heap.size<=_:=Aa.size (a:=W0) (by (repeat (first|exact hb|refine Aa.step_drewN ?_ _|refine jB ?_)));exact jX h8 (jX h9 h)
      have hiT:i<T.length+1:=jo
      have HLL:=jp hLl;generalize L[i].1=lx at *;generalize Ai L[i].2=ly at *;clear hc6 hB6 hBw hP6 hQ6 hT6 hRP hgw hLl HRM HPx;go_wp2_with fail;go_region
      all_goals
       go_wp2;go_end0
       have hbs:∀(W:World) (o:Nat) (u:Value),Ab (q::gl (.slice (some ⟨g,0,none⟩) T.length cap)) w W->Ab (q::gl (.slice (some ⟨g,0,none⟩) T.length cap)) w (W.setCell ⟨g6,o,none⟩ u):=fun W o u h=>by
        rcases HG6.out with e|e
        .exact h.set (by unfold gl;rw [<-e];simp) u
        .exact h.setN e u
       refine ⟨.slice (some ⟨g6,0,none⟩) (T.length+1) cap6,rfl,?_,?_,?_,?_⟩
       .repeat (first|exact HQ6.out|refine Ae.bel ?_ (jB (jD _))|refine Ae.bel ?_ (Aa.step_drewN (jD _) _)|refine Ae.setO ?_ hgq6 _)
       .first|exact HN.out|exact HN.out.later (jB (jD _))
       .repeat (first|exact HBw.out|refine Ab.drew ?_|refine Ab.drewN ?_ _|refine hbs _ _ _ ?_)
       .rcases HG6.out with e|e
        .exact Or.inl e
        .exact Or.inr ⟨g6,rfl,e⟩
     .skip;obtain ⟨g',hgg,e0,e1⟩:=hc i hilt;obtain rfl:g=g':=by simpa using hgg
      have e0':=hb.cell e0;have hd1:(((i:Int))==(T.length:Int))=false:=by rw [jI];omega
      have hd2:((T[i].1:Int) !=(n:Int))=true:=by rw [bne_iff_ne];omega
      clear hT1 hc e0 e1;generalize T[i].1=xk at *;go_wp2_with fail;go_quiet (fail);go_wp2_with fail;go_quiet (fail);go_wp2_with fail;refine Calls.mono (HRM.out _ ?h1) ?_
      case h1=>(repeat (first|exact hb|refine Aa.step_drewN ?_ _|refine jB ?_))
      rintro e w6 ⟨g6,cap6,L,rfl,hQ6,hT6,hRP,hB6,hgw⟩;have hBw:Ab (q::gl (.slice (some ⟨g,0,none⟩) T.length cap)) w w6:=(Ab.of_bel (M:=q::gl (.slice (some ⟨g,0,none⟩) T.length cap)) (HB0.out.trans (by (repeat (first|exact hb|refine Aa.step_drewN ?_ _|refine jB ?_))))).trans hB6
      have hP6 : Ae w.heap.size 228 #[.int .i64 (n : Int), .string (Ai b)] w6 := (HP0.out.bel (by (repeat (first | exact hb | refine Aa.step_drewN ?_ _ | refine jB ?_)))).but hB6 (fun hm => by
        rcases ja.1 hm with e | e
        . omega
        . have := hvl.out w.heap.size (by unfold gl at e; exact Option.mem_toList.1 e)
          omega)
      have v0:=hP6.cell 0 rfl;have v1:=hP6.cell 1 rfl;have u13:=hQ6.cell 13 (Jk H13.out);have hgq6:g6≠q:=hT6.nbox hQ6 htq;have hLl:=hRP.1;have hiL:i<L.length:=jo
      obtain ⟨ao',cap',hv,hc6⟩:=hT6.open;simp only [Value.slice.injEq] at hv;obtain ⟨rfl, -,rfl⟩:=hv;obtain ⟨g',hg',d0,d1⟩:=hc6 i hiL;cases hg';have fr0:=hT6.free (i * 2);have fr1:=hT6.free (i * 2+1);have HN:=jp (hT6.set i (n,b));rw [HSET.out L hRP] at HN;have HQ6:=jp hQ6;have HBw:=jp hBw
      have HG6:Hid (some g6=(Value.slice (some ⟨g,0,none⟩) T.length cap).ownBlock\/w.heap.size<=g6):=by
       rcases hgw with h|h
       .exact Or.inl h
       .right;have h8:=HB0.out.size;have h9:W0.heap.size<=_:=Aa.size (a:=W0) (by (repeat (first|exact hb|refine Aa.step_drewN ?_ _|refine jB ?_)));exact jX h8 (jX h9 h)
      have hiT:i<T.length+1:=jo
      have HLL:=jp hLl;generalize L[i].1=lx at *;generalize Ai L[i].2=ly at *;clear hc6 hB6 hBw hP6 hQ6 hT6 hRP hgw hLl HRM HPx;go_wp2_with fail;go_region
      all_goals
       go_wp2;go_end0
       have hbs:∀(W:World) (o:Nat) (u:Value),Ab (q::gl (.slice (some ⟨g,0,none⟩) T.length cap)) w W->Ab (q::gl (.slice (some ⟨g,0,none⟩) T.length cap)) w (W.setCell ⟨g6,o,none⟩ u):=fun W o u h=>by
        rcases HG6.out with e|e
        .exact h.set (by unfold gl;rw [<-e];simp) u
        .exact h.setN e u
       refine ⟨.slice (some ⟨g6,0,none⟩) (T.length+1) cap6,rfl,?_,?_,?_,?_⟩
       .repeat (first|exact HQ6.out|refine Ae.bel ?_ (jB (jD _))|refine Ae.bel ?_ (Aa.step_drewN (jD _) _)|refine Ae.setO ?_ hgq6 _)
       .first|exact HN.out|exact HN.out.later (jB (jD _))
       .repeat (first|exact HBw.out|refine Ab.drew ?_|refine Ab.drewN ?_ _|refine hbs _ _ _ ?_)
       .rcases HG6.out with e|e
        .exact Or.inl e
        .exact Or.inr ⟨g6,rfl,e⟩
def BD (fm g:Nat) (c:Ac) (a b:Value) (cg cf d:Nat) (f:Value) (i:Bool):Array Value:=#[.int .i64 (fm:Int),.int .i64 (g:Int),.int .i64 c.alg,.int .i64 c.slots,.int .i64 c.points,.int .i64 c.probes,.string c.key,.int .i64 c.formats,a,b,.int .i64 (cg:Int),.int .i64 (cf:Int),.int .i64 (d:Int),f,.bool i]
def LJ:Ac:=⟨0,0,0,0,⟨#[]⟩,0⟩
def FW (fm:Nat):Array Value:=BD fm 0 LJ (.slice none 0 0) (.slice none 0 0) 0 0 0 (.slice none 0 0) false
def Xy (fm:Nat) (w:World) (e:Ending) (w':World):Prop:=e= .returned (.pointer (some ⟨w.heap.size,0,none⟩))/\Aa w w'/\w.heap.size<w'.heap.size/\Ae w.heap.size 208 (FW fm) w'
theorem Qp (fm:Nat) (w:World):Calls Tryz.prog 118 #[.int .i64 (fm:Int)] w (Xy fm w):=by
 have a:=jp (Ae.new w 208 (FW fm));unfold FW BD LJ at a;go_enter Tryz.func118,Tryz.ntmps118;go_wp2;go_ret;exact ⟨rfl,(jD w).step_alloc _,js,a.out⟩
def Ix (g:Nat) (a:Bool):Int×Int:=((g:Int),if a then 11 else 0)
def F4 (w:World) (x:Int×Int) (e:Ending) (w':World):Prop:=e= .returned (.tuple #[.int .i64 x.1,.int .i64 x.2])/\Aa w w'
theorem YN (q fm g:Nat) (c:Ac) (b d:Value) (cg cf f:Nat) (i:Value) (a:Bool) (w:World) (h:Ae q 208 (BD fm g c b d cg cf f i a) w):
  Calls Tryz.prog 137 #[.pointer (some ⟨q,0,none⟩)] w (F4 w (Ix g a)):=by
 unfold BD at h;have l:=h.cell 1 rfl;have k:=h.cell 14 rfl;clear h;unfold Ix;cases a
 .go_enter Tryz.func137,Tryz.ntmps137;go_wp2;go_ret2;exact ⟨rfl,jq⟩
 .go_enter Tryz.func137,Tryz.ntmps137;go_wp2;go_ret2;exact ⟨rfl,jq⟩
def IR (g:Nat) (c:Ac) (B:List BK) (E:List EI) (k:ByteArray):ByteArray×Int:=if g=0 then (⟨#[]⟩,7) else GR c B E k
theorem XZ (q fm g:Nat) (c:Ac) (d f:Value) (cg cf o:Nat) (p:Value) (r:Bool) (B:List BK) (E:List EI) (k:ByteArray) (w:World) (h:Ae q 208 (BD fm g c d f cg cf o p r) w) (s:Am w d B) (t:AR w f E) (a:E.length<=65536) (i:g≠0->c.TOK) (u:k.size<=4611686018427386000):
  Calls Tryz.prog 138 #[.pointer (some ⟨q,0,none⟩),.string k] w (EH w (IR g c B E k)):=by
 unfold BD at h;have n:=h.cell 1 rfl;unfold IR;by_cases l:g=0
 .subst l;rw [if_pos rfl];replace n:w.cell? ⟨q,1,none⟩=some (.int .i64 0):=n;clear h i;go_enter Tryz.func138,Tryz.ntmps138;go_wp2;go_ret2;exact ⟨rfl,jq⟩
 .rw [if_neg l];have H:=jp (Vh q c d f B E k w ⟨⟨h.cell 2 rfl,h.cell 3 rfl,h.cell 4 rfl,h.cell 5 rfl,h.cell 6 rfl,h.cell 7 rfl⟩,h.cell 8 rfl,h.cell 9 rfl⟩ s t a (i l) u);have v:((g:Int)==0)=false:=by rw [jI];omega
  clear h i;go_enter Tryz.func138,Tryz.ntmps138;go_wp2_with fail;refine H.out.mono ?_;rintro e x ⟨rfl,b⟩;have m:=jp b;clear b H;go_wp2;go_ret2;exact ⟨rfl,m.out⟩
def SC (q:Nat) (tq:TypeId) (a:Array Value) (w:World) (e:Ending) (w':World):Prop:=e= .returned (.tuple #[])/\Ab [q] w w'/\Ae q tq a w'
theorem Wh (q fm g:Nat) (c:Ac) (i f:Value) (cg cf d:Nat) (b:Value) (a:Bool) (w:World) (h:Ae q 208 (BD fm g c i f cg cf d b a) w):
  Calls Tryz.prog 136 #[.pointer (some ⟨q,0,none⟩)] w (SC q 208 (FW fm) w):=by
 unfold BD at h;have p:=jp h;have L:=h.cell 0 rfl;have M:=h.free 0;have N:=h.cell 1 rfl;have O:=h.free 1;have P:=h.cell 2 rfl;have Q:=h.free 2;have R:=h.cell 3 rfl;have S:=h.free 3;have T:=h.cell 4 rfl;have U:=h.free 4;have V:=h.cell 5 rfl;have W:=h.free 5;have X:=h.cell 6 rfl;have Y:=h.free 6;have Z:=h.cell 7 rfl;have f7:=h.free 7;have c8:=h.cell 8 rfl;have f8:=h.free 8;have c9:=h.cell 9 rfl;have f9:=h.free 9;have r:=h.cell 10 rfl;have s:=h.free 10;have t:=h.cell 11 rfl;have u:=h.free 11;have v:=h.cell 12 rfl;have x:=h.free 12;have y:=h.cell 13 rfl;have z:=h.free 13;have A:=h.cell 14 rfl;have B:=h.free 14;clear h;go_enter Tryz.func136,Tryz.ntmps136;go_wp2;go_end0;refine ⟨rfl,?_,?_⟩
 .iterate 14 (refine Ab.set ?_ js _)
  exact Ab.refl _ _
 .have x0:=p.out;have C:=x0.set 1 (.int .i64 0) (cs':=#[.int .i64 (fm:Int),.int .i64 0,.int .i64 c.alg,.int .i64 c.slots,.int .i64 c.points,.int .i64 c.probes,.string c.key,.int .i64 c.formats,i,f,.int .i64 (cg:Int),.int .i64 (cf:Int),.int .i64 (d:Int),b,.bool a]) rfl;have D:=C.set 2 (.int .i64 0) (cs':=#[.int .i64 (fm:Int),.int .i64 0,.int .i64 0,.int .i64 c.slots,.int .i64 c.points,.int .i64 c.probes,.string c.key,.int .i64 c.formats,i,f,.int .i64 (cg:Int),.int .i64 (cf:Int),.int .i64 (d:Int),b,.bool a]) rfl;have E:=D.set 3 (.int .i64 0) (cs':=#[.int .i64 (fm:Int),.int .i64 0,.int .i64 0,.int .i64 0,.int .i64 c.points,.int .i64 c.probes,.string c.key,.int .i64 c.formats,i,f,.int .i64 (cg:Int),.int .i64 (cf:Int),.int .i64 (d:Int),b,.bool a]) rfl;have F:=E.set 4 (.int .i64 0) (cs':=#[.int .i64 (fm:Int),.int .i64 0,.int .i64 0,.int .i64 0,.int .i64 0,.int .i64 c.probes,.string c.key,.int .i64 c.formats,i,f,.int .i64 (cg:Int),.int .i64 (cf:Int),.int .i64 (d:Int),b,.bool a]) rfl;have G:=F.set 5 (.int .i64 0) (cs':=#[.int .i64 (fm:Int),.int .i64 0,.int .i64 0,.int .i64 0,.int .i64 0,.int .i64 0,.string c.key,.int .i64 c.formats,i,f,.int .i64 (cg:Int),.int .i64 (cf:Int),.int .i64 (d:Int),b,.bool a]) rfl;have H:=G.set 6 (.string ⟨#[]⟩) (cs':=#[.int .i64 (fm:Int),.int .i64 0,.int .i64 0,.int .i64 0,.int .i64 0,.int .i64 0,.string ⟨#[]⟩,.int .i64 c.formats,i,f,.int .i64 (cg:Int),.int .i64 (cf:Int),.int .i64 (d:Int),b,.bool a]) rfl;have I:=H.set 7 (.int .i64 0) (cs':=#[.int .i64 (fm:Int),.int .i64 0,.int .i64 0,.int .i64 0,.int .i64 0,.int .i64 0,.string ⟨#[]⟩,.int .i64 0,i,f,.int .i64 (cg:Int),.int .i64 (cf:Int),.int .i64 (d:Int),b,.bool a]) rfl;have J:=I.set 8 (.slice none 0 0) (cs':=#[.int .i64 (fm:Int),.int .i64 0,.int .i64 0,.int .i64 0,.int .i64 0,.int .i64 0,.string ⟨#[]⟩,.int .i64 0,.slice none 0 0,f,.int .i64 (cg:Int),.int .i64 (cf:Int),.int .i64 (d:Int),b,.bool a]) rfl;have K:=J.set 9 (.slice none 0 0) (cs':=#[.int .i64 (fm:Int),.int .i64 0,.int .i64 0,.int .i64 0,.int .i64 0,.int .i64 0,.string ⟨#[]⟩,.int .i64 0,.slice none 0 0,.slice none 0 0,.int .i64 (cg:Int),.int .i64 (cf:Int),.int .i64 (d:Int),b,.bool a]) rfl;have k:=K.set 10 (.int .i64 0) (cs':=#[.int .i64 (fm:Int),.int .i64 0,.int .i64 0,.int .i64 0,.int .i64 0,.int .i64 0,.string ⟨#[]⟩,.int .i64 0,.slice none 0 0,.slice none 0 0,.int .i64 0,.int .i64 (cf:Int),.int .i64 (d:Int),b,.bool a]) rfl;have l:=k.set 11 (.int .i64 0) (cs':=#[.int .i64 (fm:Int),.int .i64 0,.int .i64 0,.int .i64 0,.int .i64 0,.int .i64 0,.string ⟨#[]⟩,.int .i64 0,.slice none 0 0,.slice none 0 0,.int .i64 0,.int .i64 0,.int .i64 (d:Int),b,.bool a]) rfl;have m:=l.set 12 (.int .i64 0) (cs':=#[.int .i64 (fm:Int),.int .i64 0,.int .i64 0,.int .i64 0,.int .i64 0,.int .i64 0,.string ⟨#[]⟩,.int .i64 0,.slice none 0 0,.slice none 0 0,.int .i64 0,.int .i64 0,.int .i64 0,b,.bool a]) rfl
  have n:=m.set 13 (.slice none 0 0) (cs':=#[.int .i64 (fm:Int),.int .i64 0,.int .i64 0,.int .i64 0,.int .i64 0,.int .i64 0,.string ⟨#[]⟩,.int .i64 0,.slice none 0 0,.slice none 0 0,.int .i64 0,.int .i64 0,.int .i64 0,.slice none 0 0,.bool a]) rfl;have o:=n.set 14 (.bool false) (cs':=#[.int .i64 (fm:Int),.int .i64 0,.int .i64 0,.int .i64 0,.int .i64 0,.int .i64 0,.string ⟨#[]⟩,.int .i64 0,.slice none 0 0,.slice none 0 0,.int .i64 0,.int .i64 0,.int .i64 0,.slice none 0 0,.bool false]) rfl;exact o
def IQ (fm g cg:Nat) (a:Bl):Bool:=decide (g<a.2.1) && decide (cg<=a.2.1) && decide (a.2.2.2.2.1<a.2.2.2.1) && !((a.2.2.1 &&& fm)==0)
def GZ (a:Bl):Array Value:=#[.int .i64 (a.1:Int),.int .i64 (a.2.1:Int),.int .i64 (a.2.2.1:Int),.int .i64 (a.2.2.2.1:Int),.int .i64 (a.2.2.2.2.1:Int),.string (Ai a.2.2.2.2.2)]
theorem Nb (x y:Nat) (a:x<256) (b:y<256):bits .and .i64 (x:Int) (y:Int)=((x &&& y:Nat):Int):=Oi x y jo jo
theorem VP (q fm g:Nat) (c:Ac) (v x:Value) (cg cf y:Nat) (A:Value) (B:Bool) (a:Bl) (w:World) (h:Ae q 208 (BD fm g c v x cg cf y A B) w) (o:a.2.2.1<256) (l:fm<256):
  Calls Tryz.prog 195 #[.pointer (some ⟨q,0,none⟩),.agg (GZ a)] w (GX w (IQ fm g cg a)):=by
 unfold BD at h;have J:=h.cell 0 rfl;have K:=h.cell 1 rfl;have C:=h.cell 10 rfl;have D:=h.lt;have p:=Nb a.2.2.1 fm o l;unfold IQ GZ;obtain ⟨k,b,m,d,f,E⟩:=a;simp only at *;generalize r:((m &&& fm)==0)=z at *
 have F:(((m &&& fm:Nat):Int) !=0)=!z:=by
  rw [<-r];cases n:((m &&& fm)==0)
  .simp at n;simp [n]
  .simp at n;simp [n]
 generalize (m &&& fm)=L at *;generalize Ai E=M at *;clear h r o l;by_cases s:g<b
 .have G:decide ((g:Int)<(b:Int))=true:=jL jo;by_cases t:cg<=b
  .have H:decide ((cg:Int)<=(b:Int))=true:=jL jo;by_cases u:f<d
   .have I:decide ((f:Int)<(d:Int))=true:=jL jo;have i:Hid ((decide (g<b) && decide (cg<=b) && decide (f<d) && !z)=!z):=by show _=_;simp [s,t,u]
    go_enter Tryz.func195,Tryz.ntmps195;go_wp2_with fail;go_quiet (fail);go_wp2;go_ret;exact ⟨by rw [i.out];rfl,jq⟩
   .have I:decide ((f:Int)<(d:Int))=false:=jK jo;have i:Hid ((decide (g<b) && decide (cg<=b) && decide (f<d) && !z)=false):=by show _=_;simp [u]
    go_enter Tryz.func195,Tryz.ntmps195;go_wp2_with fail;go_quiet (fail);go_wp2;go_ret;exact ⟨by rw [i.out];rfl,jq⟩
  .have H:decide ((cg:Int)<=(b:Int))=false:=jK jo;have i:Hid ((decide (g<b) && decide (cg<=b) && decide (f<d) && !z)=false):=by show _=_;simp [t]
   go_enter Tryz.func195,Tryz.ntmps195;go_wp2_with fail;go_quiet (fail);go_wp2;go_ret;exact ⟨by rw [i.out];rfl,jq⟩
 .have G:decide ((g:Int)<(b:Int))=false:=jK jo;have i:Hid ((decide (g<b) && decide (cg<=b) && decide (f<d) && !z)=false):=by show _=_;simp [s]
  go_enter Tryz.func195,Tryz.ntmps195;go_wp2_with fail;go_quiet (fail);go_wp2;go_ret;exact ⟨by rw [i.out];rfl,jq⟩
end Go.Proofs.YtpapdkhjdelfcaaGreat
