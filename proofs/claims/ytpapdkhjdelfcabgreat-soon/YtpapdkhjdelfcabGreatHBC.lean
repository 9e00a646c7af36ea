import Derived.Test.YtpapdkhjdelfcabGreatHBB
set_option maxRecDepth 100000
set_option maxHeartbeats 4000000
namespace Go.Proofs.YtpapdkhjdelfcabGreat
open Go.RowKit
def layI (T:List TP) (n:Nat):Nat→Nat
 |0=>0
 |i+1=>match T[i]? with
  |some p=>if n≤p.1 then layI T n i else i+1
  |none=>i+1
def layF (T:List TP) (p:TP):List TP:=if (T[layI T p.1 T.length]?).map Prod.fst=some p.1 then T.set (layI T p.1 T.length) p else T.take (layI T p.1 T.length)++p::T.drop (layI T p.1 T.length)
theorem layI_le (T:List TP) (n:Nat):∀i,layI T n i≤i
 |0=>Nat.le_refl _
 |i+1=>by
  rw [layI];have:=layI_le T n i;split
  ·split <;>omega
  ·omega
theorem room_set {T L:List TP} {i:Nat} {p:TP} (h:RoomP T i L) (hi:i≤T.length):L.set i p=T.take i++p::T.drop i:=by
 obtain ⟨h1,h2,h3⟩:=h;apply List.ext_getElem?;intro j;by_cases hj:j=i
 ·subst hj;rw [List.getElem?_set_self (by omega),List.getElem?_append_right (by rw [List.length_take];omega),List.length_take,Nat.min_eq_left hi];simp
 ·rw [List.getElem?_set_ne (by omega)];by_cases hlt:j<i
  ·rw [h2 j hlt,List.getElem?_append_left (by rw [List.length_take];omega),List.getElem?_take_of_lt hlt]
  ·obtain ⟨k,rfl⟩:∃k,j=k+1:=⟨j - 1,by omega⟩;rw [List.getElem?_append_right (by rw [List.length_take];omega),List.length_take,Nat.min_eq_left hi,show k+1 - i=(k - i)+1 by omega,List.getElem?_cons_succ,List.getElem?_drop,show i+(k - i)=k by omega];by_cases hk:k<T.length
   ·exact h3 k (by omega) hk
   ·rw [List.getElem?_eq_none (by omega),List.getElem?_eq_none (by omega)]
theorem arr_lt {cs:Array Value} {j:Nat} {u:Value} (h:cs[j]?=some u):j<cs.size:=by
 rcases Nat.lt_or_ge j cs.size with k|k
 ·exact k
 ·rw [Array.getElem?_eq_none k] at h;cases h
theorem set13 {cs:Array Value} {j:Nat} {u v:Value} (h:cs[j]?=some u):(cs.setIfInBounds j v)[j]?=some v:=by
 have:=arr_lt h;simp [this]
theorem set13_same {cs:Array Value} {j:Nat} {u:Value} (h:cs[j]?=some u):cs.setIfInBounds j u=cs:=by
 apply Array.ext_getElem?;intro k;by_cases hk:k=j
 ·subst hk;rw [set13 h,h]
 ·rw [Array.getElem?_setIfInBounds_ne (by omega)]
def RLay (q:Nat) (tq:TypeId) (cs:Array Value) (T:List TP) (vT:Value) (w:World) (e:Ending) (w':World):Prop:=
 ∃v',e= .returned (.tuple #[])∧BoxC q tq (cs.setIfInBounds 13 v') w'∧ThAt w' v' T∧But (q::gl vT) w w'∧(v'.ownBlock=vT.ownBlock∨∃g,v'.ownBlock=some g∧w.heap.size≤g)
theorem lay_is (q:Nat) (tq:TypeId) (cs:Array Value) (T:List TP) (n:Nat) (b:List UInt8) (vT:Value) (w:World) (hQ:BoxC q tq cs w) (h13:cs[13]?=some vT) (hT:ThAt w vT T) (hl:T.length≤65536) (htq:tq≠196):
  Calls Tryz.prog 175 #[.pointer (some ⟨q,10,none⟩),.agg #[.int .i64 (n:Int),.string (txt b)]] w (RLay q tq cs (layF T (n,b)) vT w):=by
 obtain ⟨W0,hW0⟩:∃W0,W0=w.alloc (.cells #[.int .i64 (n:Int),.string (txt b)] 196):=⟨_,rfl⟩;have hb0:Bel w W0:=by rw [hW0];exact (Bel.refl w).step_alloc _
 have hP0:BoxC w.heap.size 196 #[.int .i64 (n:Int),.string (txt b)] W0:=by rw [hW0];exact BoxC.new _ _ _
 have hQ0:=hQ.bel hb0;have hT0:=hT.later hb0;have c13w:=hQ.cell 13 h13;have hqnw:q≠w.heap.size:=by have:=hQ.lt;omega
 have p0:=hP0.cell 0 rfl;have p1:=hP0.cell 1 rfl;have c13:=hQ0.cell 13 h13;have hrm:=fun k h=>room_is q tq cs T k vT W0 hQ0 h13 hT0 hl h htq
 have hvl:Hid (∀g,vT.ownBlock=some g→g<w.heap.size):=fun g hg=>(World.ownsRow.lt hT g hg).2
 obtain ⟨ao,cap,rfl,hc⟩:=hT0.open;have hle:=layI_le T n T.length;have HLF:Hid (layF T (n,b)=if (T[layI T n T.length]?).map Prod.fst=some n then T.set (layI T n T.length) (n,b) else T.take (layI T n T.length)++(n,b)::T.drop (layI T n T.length)):=rfl;obtain ⟨i,hid⟩:∃i,i=layI T n T.length:=⟨_,rfl⟩;rw [←hid] at hle HLF;have HID:=Hid.mk hid;have HQ0:=Hid.mk hQ0;have HT0:=Hid.mk hT0;have HP0:=Hid.mk hP0;have HB0:=Hid.mk hb0;have H13:=Hid.mk h13;have hws:W0.heap.size=w.heap.size+1:=by rw [hW0];simp
 have HWS:=Hid.mk hws;have hql:=hQ.lt;clear hid hQ hT hQ0 hT0 hP0 hb0 h13 hws;go_enter Tryz.func175,Tryz.ntmps175;go_wp2_with fail;rw [←hW0];clear hW0 c13w;go_loopg [4] T.length (fun r d wr=>Bel W0 wr∧∃k:Nat,r=k∧k≤T.length∧d= .int .i64 (k:Int)∧layI T n T.length=layI T n k)
 case atStart=>exact ⟨Bel.refl _,T.length,rfl,Nat.le_refl _,rfl,rfl⟩
 case round=>
  obtain ⟨hb,k,hr,hk,rfl,hI⟩:=hrel;by_cases hk0:k=0
  ·have hIk:i=k:=by rw [HID.out,hI,hk0];rfl
   have hd0:decide ((0:Int)<(k:Int))=false:=decide_eq_false (by omega);have hd0n:decide (0<k)=false:=decide_eq_false (by omega);clear hI hk0;obtain rfl:i=k:=hIk;have s13:=hb.cell c13;have r0:=hb.cell p0;have r1:=hb.cell p1;have hwl:w.heap.size<wr.heap.size:=by have:=hb.size;have:=HWS.out;omega
   by_cases hin:(T[i]?).map Prod.fst=some n
   ·rw [if_pos hin] at HLF
    have hilt:i<T.length:=by
     rcases Nat.lt_or_ge i T.length with h|h
     ·exact h
     ·rw [List.getElem?_eq_none h] at hin;cases hin
    obtain ⟨g,rfl,e0,e1⟩:=hc i hilt;have hx:T[i].1=n:=by simpa [List.getElem?_eq_getElem hilt] using hin
    have e0':=hb.cell e0;have e1':=hb.cell e1;rw [hx] at e0';have HT1:=Hid.mk (HT0.out.later hb);have hfr0:=HT1.out.free (i * 2);have hfr1:=HT1.out.free (i * 2+1);have hgq:g≠q:=HT1.out.nbox (HQ0.out.bel hb) htq;have HN:=Hid.mk (HT1.out.set i (n,b));have HQ1:=Hid.mk (HQ0.out.bel hb);have HBx:=Hid.mk hb;have hgl:Hid (g<w.heap.size):=hvl.out g rfl;have hd1:(((i:Int))==(T.length:Int))=false:=by rw [beq_eq_false_iff_ne];omega
    have hd2:(((n:Int)) !=(n:Int))=false:=by simp
    have hgn:g≠w.heap.size:=by have:=hgl.out;omega
    generalize txt T[i].2=tk at *;clear hc hin hx e0 e1 hrm HT0;go_wp2_with fail;go_quiet (fail);go_wp2_with fail;go_quiet (fail);go_wp2_with fail;go_region
    all_goals
     go_wp2;go_end0;refine ⟨.slice (some ⟨g,0,none⟩) T.length cap,rfl,?_,?_,?_,Or.inl rfl⟩
     ·rw [set13_same H13.out]
      repeat (first|exact HQ1.out|refine BoxC.bel ?_ (Bel.step_drew (Bel.refl _))|refine BoxC.bel ?_ (Bel.step_drewN (Bel.refl _) _)|refine BoxC.setO ?_ hgq _)
     ·rw [HLF.out]
      first|refine ThAt.set (HT1.out.later ?_) i (n,b)|refine ThAt.later (ThAt.set (HT1.out.later ?_) i (n,b)) (Bel.step_drew (Bel.refl _))
      (repeat (first|exact Bel.refl _|refine Bel.step_drewN ?_ _|refine Bel.step_drew ?_))
     ·have h1:But (q::gl (.slice (some ⟨g,0,none⟩) T.length cap)) w wr:=(But.of_bel HB0.out).trans (But.of_bel HBx.out)
      repeat (first|exact h1|refine But.drew ?_|refine But.drewN ?_ _|refine But.set ?_ (by simp [gl,Value.ownBlock]) _)
   ·rw [if_neg hin] at HLF
    have htest:i=T.length∨∃h:i<T.length,T[i].1≠n:=by
     rcases Nat.lt_or_ge i T.length with h|h
     ·exact Or.inr ⟨h,fun e=>hin (by simp [List.getElem?_eq_getElem h,e])⟩
     ·exact Or.inl (by omega)
    have HSET:Hid (∀L,RoomP T i L→L.set i (n,b)=layF T (n,b)):=fun L h=>by rw [HLF.out];exact room_set h hle
    have HRM:Hid (∀wx,Bel W0 wx→Calls Tryz.prog 215 #[.pointer (some ⟨q,10,none⟩),.int .i64 (i:Int)] wx (RRoom q tq cs T i (.slice ao T.length cap) wx)):=fun wx h=>room_is q tq cs T i _ wx (HQ0.out.bel h) H13.out (HT0.out.later h) hl hle htq
    have HPx:=Hid.mk (HP0.out.bel hb);clear hrm hin HLF;rcases htest with hT1|⟨hilt,hT1⟩
    ·have hd1:(((i:Int))==(T.length:Int))=true:=by rw [beq_iff_eq];omega
     have HTL:=Hid.mk hT1;clear hT1 hc;go_wp2_with fail;go_quiet (fail);go_wp2_with fail;go_quiet (fail);go_wp2_with fail;refine Calls.mono (HRM.out _ ?h1) ?_
     case h1=>(repeat (first|exact hb|refine Bel.step_drewN ?_ _|refine Bel.step_drew ?_))
     rintro e w6 ⟨g6,cap6,L,rfl,hQ6,hT6,hRP,hB6,hgw⟩;have hBw:But (q::gl (.slice ao T.length cap)) w w6:=(But.of_bel (M:=q::gl (.slice ao T.length cap)) (HB0.out.trans (by (repeat (first|exact hb|refine Bel.step_drewN ?_ _|refine Bel.step_drew ?_))))).trans hB6
     have hP6 : BoxC w.heap.size 196 #[.int .i64 (n : Int), .string (txt b)] w6 := (HP0.out.bel (by (repeat (first | exact hb | refine Bel.step_drewN ?_ _ | refine Bel.step_drew ?_)))).but hB6 (fun hm => by
       rcases List.mem_cons.1 hm with e | e
       · omega
       · have := hvl.out w.heap.size (by unfold gl at e; exact Option.mem_toList.1 e)
         omega)
     have v0:=hP6.cell 0 rfl;have v1:=hP6.cell 1 rfl;have u13:=hQ6.cell 13 (set13 H13.out);have hgq6:g6≠q:=hT6.nbox hQ6 htq;have hLl:=hRP.1;have hiL:i<L.length:=by omega
     obtain ⟨ao',cap',hv,hc6⟩:=hT6.open;simp only [Value.slice.injEq] at hv;obtain ⟨rfl, -,rfl⟩:=hv;obtain ⟨g',hg',d0,d1⟩:=hc6 i hiL;cases hg';have fr0:=hT6.free (i * 2);have fr1:=hT6.free (i * 2+1);have HN:=Hid.mk (hT6.set i (n,b));rw [HSET.out L hRP] at HN;have HQ6:=Hid.mk hQ6;have HBw:=Hid.mk hBw
     have HG6:Hid (some g6=(Value.slice ao T.length cap).ownBlock∨w.heap.size≤g6):=by
      rcases hgw with h|h
      ·exact Or.inl h
      ·right;have h8:=HB0.out.size;have h9:W0.heap.size≤_:=Bel.size (a:=W0) (by (repeat (first|exact hb|refine Bel.step_drewN ?_ _|refine Bel.step_drew ?_)));exact Nat.le_trans h8 (Nat.le_trans h9 h)
     have hiT:i<T.length+1:=by omega
     have HLL:=Hid.mk hLl;generalize L[i].1=lx at *;generalize txt L[i].2=ly at *;clear hc6 hB6 hBw hP6 hQ6 hT6 hRP hgw hLl HRM HPx;go_wp2_with fail;go_region
     all_goals
      go_wp2;go_end0
      have hbs:∀(W:World) (o:Nat) (u:Value),But (q::gl (.slice ao T.length cap)) w W→But (q::gl (.slice ao T.length cap)) w (W.setCell ⟨g6,o,none⟩ u):=fun W o u h=>by
       rcases HG6.out with e|e
       ·exact h.set (by unfold gl;rw [←e];simp) u
       ·exact h.setN e u
      refine ⟨.slice (some ⟨g6,0,none⟩) (T.length+1) cap6,rfl,?_,?_,?_,?_⟩
      ·repeat (first|exact HQ6.out|refine BoxC.bel ?_ (Bel.step_drew (Bel.refl _))|refine BoxC.bel ?_ (Bel.step_drewN (Bel.refl _) _)|refine BoxC.setO ?_ hgq6 _)
      ·first|exact HN.out|exact HN.out.later (Bel.step_drew (Bel.refl _))
      ·repeat (first|exact HBw.out|refine But.drew ?_|refine But.drewN ?_ _|refine hbs _ _ _ ?_)
      ·rcases HG6.out with e|e
       ·exact Or.inl e
       ·exact Or.inr ⟨g6,rfl,e⟩
    ·skip;obtain ⟨g,rfl,e0,e1⟩:=hc i hilt;have e0':=hb.cell e0;have hd1:(((i:Int))==(T.length:Int))=false:=by rw [beq_eq_false_iff_ne];omega
     have hd2:((T[i].1:Int) !=(n:Int))=true:=by rw [bne_iff_ne];omega
     clear hT1 hc e0 e1;generalize T[i].1=xk at *;go_wp2_with fail;go_quiet (fail);go_wp2_with fail;go_quiet (fail);go_wp2_with fail;refine Calls.mono (HRM.out _ ?h1) ?_
     case h1=>(repeat (first|exact hb|refine Bel.step_drewN ?_ _|refine Bel.step_drew ?_))
     rintro e w6 ⟨g6,cap6,L,rfl,hQ6,hT6,hRP,hB6,hgw⟩;have hBw:But (q::gl (.slice (some ⟨g,0,none⟩) T.length cap)) w w6:=(But.of_bel (M:=q::gl (.slice (some ⟨g,0,none⟩) T.length cap)) (HB0.out.trans (by (repeat (first|exact hb|refine Bel.step_drewN ?_ _|refine Bel.step_drew ?_))))).trans hB6
     have hP6 : BoxC w.heap.size 196 #[.int .i64 (n : Int), .string (txt b)] w6 := (HP0.out.bel (by (repeat (first | exact hb | refine Bel.step_drewN ?_ _ | refine Bel.step_drew ?_)))).but hB6 (fun hm => by
       rcases List.mem_cons.1 hm with e | e
       · omega
       · have := hvl.out w.heap.size (by unfold gl at e; exact Option.mem_toList.1 e)
         omega)
     have v0:=hP6.cell 0 rfl;have v1:=hP6.cell 1 rfl;have u13:=hQ6.cell 13 (set13 H13.out);have hgq6:g6≠q:=hT6.nbox hQ6 htq;have hLl:=hRP.1;have hiL:i<L.length:=by omega
     obtain ⟨ao',cap',hv,hc6⟩:=hT6.open;simp only [Value.slice.injEq] at hv;obtain ⟨rfl, -,rfl⟩:=hv;obtain ⟨g',hg',d0,d1⟩:=hc6 i hiL;cases hg';have fr0:=hT6.free (i * 2);have fr1:=hT6.free (i * 2+1);have HN:=Hid.mk (hT6.set i (n,b));rw [HSET.out L hRP] at HN;have HQ6:=Hid.mk hQ6;have HBw:=Hid.mk hBw
     have HG6:Hid (some g6=(Value.slice (some ⟨g,0,none⟩) T.length cap).ownBlock∨w.heap.size≤g6):=by
      rcases hgw with h|h
      ·exact Or.inl h
      ·right;have h8:=HB0.out.size;have h9:W0.heap.size≤_:=Bel.size (a:=W0) (by (repeat (first|exact hb|refine Bel.step_drewN ?_ _|refine Bel.step_drew ?_)));exact Nat.le_trans h8 (Nat.le_trans h9 h)
     have hiT:i<T.length+1:=by omega
     have HLL:=Hid.mk hLl;generalize L[i].1=lx at *;generalize txt L[i].2=ly at *;clear hc6 hB6 hBw hP6 hQ6 hT6 hRP hgw hLl HRM HPx;go_wp2_with fail;go_region
     all_goals
      go_wp2;go_end0
      have hbs:∀(W:World) (o:Nat) (u:Value),But (q::gl (.slice (some ⟨g,0,none⟩) T.length cap)) w W→But (q::gl (.slice (some ⟨g,0,none⟩) T.length cap)) w (W.setCell ⟨g6,o,none⟩ u):=fun W o u h=>by
       rcases HG6.out with e|e
       ·exact h.set (by unfold gl;rw [←e];simp) u
       ·exact h.setN e u
      refine ⟨.slice (some ⟨g6,0,none⟩) (T.length+1) cap6,rfl,?_,?_,?_,?_⟩
      ·repeat (first|exact HQ6.out|refine BoxC.bel ?_ (Bel.step_drew (Bel.refl _))|refine BoxC.bel ?_ (Bel.step_drewN (Bel.refl _) _)|refine BoxC.setO ?_ hgq6 _)
      ·first|exact HN.out|exact HN.out.later (Bel.step_drew (Bel.refl _))
      ·repeat (first|exact HBw.out|refine But.drew ?_|refine But.drewN ?_ _|refine hbs _ _ _ ?_)
      ·rcases HG6.out with e|e
       ·exact Or.inl e
       ·exact Or.inr ⟨g6,rfl,e⟩
  ·obtain ⟨k',rfl⟩:∃k',k=k'+1:=⟨k - 1,by omega⟩;have hk'T:k'<T.length:=by omega
   have hst:layI T n (k'+1)=if n≤T[k'].1 then layI T n k' else k'+1:=by rw [layI,List.getElem?_eq_getElem hk'T]
   by_cases hge:n≤T[k'].1
   ·rw [if_pos hge] at hst;obtain ⟨g,rfl,e0,e1⟩:=hc k' hk'T;have e0':=hb.cell e0;have s13:=hb.cell c13;have r0:=hb.cell p0;have hd0:decide ((0:Int)<((k'+1:Nat):Int))=true:=decide_eq_true (by omega);have hd1:decide ((n:Int)≤(T[k'].1:Int))=true:=decide_eq_true (by omega);have hd1n:decide (n≤T[k'].1)=true:=decide_eq_true hge;have hwk:IntKind.i64.wrap (k':Int)=(k':Int):=by rw [IntKind.wrap_i64];omega
    have HST:=Hid.mk (hI.trans hst);clear hst hI hge hc e0 e1 HLF hrm;generalize T[k'].1=xk at *;go_wp2_with fail;go_quiet (fail);go_wp2_with fail;go_roundg k'
    case measure=>omega
    case rel=>exact ⟨by (repeat (first|exact Bel.refl _|assumption|refine Bel.step_alloc ?_ _|refine Bel.step_drew ?_|refine Bel.step_drewN ?_ _|refine Bel.step_set ?_ (by simp <;>omega) _|refine Bel.trans ?_ (by assumption))),k',rfl,by omega,by go_num,HST.out⟩
   ·rw [if_neg hge] at hst;have hIk:i=k'+1:=by rw [HID.out,hI,hst]
    obtain ⟨g,rfl,y0,y1⟩:=hc k' hk'T;have y0':=hb.cell y0;have hd0:decide ((0:Int)<(i:Int))=true:=decide_eq_true (by omega);have hd0n:decide (0<i)=true:=decide_eq_true (by omega);have hdg:decide ((n:Int)≤(T[k'].1:Int))=false:=decide_eq_false (by omega);have hdgn:decide (n≤T[k'].1)=false:=decide_eq_false hge;have hwi:IntKind.i64.wrap ((i:Int) - 1)=(k':Int):=by rw [hIk,IntKind.wrap_i64];omega
    have hwi2:(i:Int) - 1=(k':Int):=by omega
    have HIK:=Hid.mk hIk;have hki:((k'+1:Nat):Int)=(i:Int):=by omega
    rw [hki];clear hI hst hge y0 y1 hIk hr hk hki;generalize hTk:T[k'].1=xk at *;clear hTk;have s13:=hb.cell c13;have r0:=hb.cell p0;have r1:=hb.cell p1;have hwl:w.heap.size<wr.heap.size:=by have:=hb.size;have:=HWS.out;omega
    by_cases hin:(T[i]?).map Prod.fst=some n
    ·rw [if_pos hin] at HLF
     have hilt:i<T.length:=by
      rcases Nat.lt_or_ge i T.length with h|h
      ·exact h
      ·rw [List.getElem?_eq_none h] at hin;cases hin
     obtain ⟨g',hgg,e0,e1⟩:=hc i hilt;obtain rfl:g=g':=by simpa using hgg
     have hx:T[i].1=n:=by simpa [List.getElem?_eq_getElem hilt] using hin
     have e0':=hb.cell e0;have e1':=hb.cell e1;rw [hx] at e0';have HT1:=Hid.mk (HT0.out.later hb);have hfr0:=HT1.out.free (i * 2);have hfr1:=HT1.out.free (i * 2+1);have hgq:g≠q:=HT1.out.nbox (HQ0.out.bel hb) htq;have HN:=Hid.mk (HT1.out.set i (n,b));have HQ1:=Hid.mk (HQ0.out.bel hb);have HBx:=Hid.mk hb;have hgl:Hid (g<w.heap.size):=hvl.out g rfl;have hd1:(((i:Int))==(T.length:Int))=false:=by rw [beq_eq_false_iff_ne];omega
     have hd2:(((n:Int)) !=(n:Int))=false:=by simp
     have hgn:g≠w.heap.size:=by have:=hgl.out;omega
     generalize txt T[i].2=tk at *;clear hc hin hx e0 e1 hrm HT0;go_wp2_with fail;go_quiet (fail);go_wp2_with fail;go_quiet (fail);go_wp2_with fail;go_region
     all_goals
      go_wp2;go_end0;refine ⟨.slice (some ⟨g,0,none⟩) T.length cap,rfl,?_,?_,?_,Or.inl rfl⟩
      ·rw [set13_same H13.out]
       repeat (first|exact HQ1.out|refine BoxC.bel ?_ (Bel.step_drew (Bel.refl _))|refine BoxC.bel ?_ (Bel.step_drewN (Bel.refl _) _)|refine BoxC.setO ?_ hgq _)
      ·rw [HLF.out]
       first|refine ThAt.set (HT1.out.later ?_) i (n,b)|refine ThAt.later (ThAt.set (HT1.out.later ?_) i (n,b)) (Bel.step_drew (Bel.refl _))
       (repeat (first|exact Bel.refl _|refine Bel.step_drewN ?_ _|refine Bel.step_drew ?_))
      ·have h1:But (q::gl (.slice (some ⟨g,0,none⟩) T.length cap)) w wr:=(But.of_bel HB0.out).trans (But.of_bel HBx.out)
       repeat (first|exact h1|refine But.drew ?_|refine But.drewN ?_ _|refine But.set ?_ (by simp [gl,Value.ownBlock]) _)
    ·rw [if_neg hin] at HLF
     have htest:i=T.length∨∃h:i<T.length,T[i].1≠n:=by
      rcases Nat.lt_or_ge i T.length with h|h
      ·exact Or.inr ⟨h,fun e=>hin (by simp [List.getElem?_eq_getElem h,e])⟩
      ·exact Or.inl (by omega)
     have HSET:Hid (∀L,RoomP T i L→L.set i (n,b)=layF T (n,b)):=fun L h=>by rw [HLF.out];exact room_set h hle
     have HRM:Hid (∀wx,Bel W0 wx→Calls Tryz.prog 215 #[.pointer (some ⟨q,10,none⟩),.int .i64 (i:Int)] wx (RRoom q tq cs T i (.slice (some ⟨g,0,none⟩) T.length cap) wx)):=fun wx h=>room_is q tq cs T i _ wx (HQ0.out.bel h) H13.out (HT0.out.later h) hl hle htq
     have HPx:=Hid.mk (HP0.out.bel hb);clear hrm hin HLF;rcases htest with hT1|⟨hilt,hT1⟩
     ·have hd1:(((i:Int))==(T.length:Int))=true:=by rw [beq_iff_eq];omega
      have HTL:=Hid.mk hT1;clear hT1 hc;go_wp2_with fail;go_quiet (fail);go_wp2_with fail;go_quiet (fail);go_wp2_with fail;refine Calls.mono (HRM.out _ ?h1) ?_
      case h1=>(repeat (first|exact hb|refine Bel.step_drewN ?_ _|refine Bel.step_drew ?_))
      rintro e w6 ⟨g6,cap6,L,rfl,hQ6,hT6,hRP,hB6,hgw⟩;have hBw:But (q::gl (.slice (some ⟨g,0,none⟩) T.length cap)) w w6:=(But.of_bel (M:=q::gl (.slice (some ⟨g,0,none⟩) T.length cap)) (HB0.out.trans (by (repeat (first|exact hb|refine Bel.step_drewN ?_ _|refine Bel.step_drew ?_))))).trans hB6
      have hP6 : BoxC w.heap.size 196 #[.int .i64 (n : Int), .string (txt b)] w6 := (HP0.out.bel (by (repeat (first | exact hb | refine Bel.step_drewN ?_ _ | refine Bel.step_drew ?_)))).but hB6 (fun hm => by
        rcases List.mem_cons.1 hm with e | e
        · omega
        · have := hvl.out w.heap.size (by unfold gl at e; exact Option.mem_toList.1 e)
          omega)
      have v0:=hP6.cell 0 rfl;have v1:=hP6.cell 1 rfl;have u13:=hQ6.cell 13 (set13 H13.out);have hgq6:g6≠q:=hT6.nbox hQ6 htq;have hLl:=hRP.1;have hiL:i<L.length:=by omega
      obtain ⟨ao',cap',hv,hc6⟩:=hT6.open;simp only [Value.slice.injEq] at hv;obtain ⟨rfl, -,rfl⟩:=hv;obtain ⟨g',hg',d0,d1⟩:=hc6 i hiL;cases hg';have fr0:=hT6.free (i * 2);have fr1:=hT6.free (i * 2+1);have HN:=Hid.mk (hT6.set i (n,b));rw [HSET.out L hRP] at HN;have HQ6:=Hid.mk hQ6;have HBw:=Hid.mk hBw
      have HG6:Hid (some g6=(Value.slice (some ⟨g,0,none⟩) T.length cap).ownBlock∨w.heap.size≤g6):=by
       rcases hgw with h|h
       ·exact Or.inl h
       ·right;have h8:=HB0.out.size;have h9:W0.heap.size≤_:=Bel.size (a:=W0) (by (repeat (first|exact hb|refine Bel.step_drewN ?_ _|refine Bel.step_drew ?_)));exact Nat.le_trans h8 (Nat.le_trans h9 h)
      have hiT:i<T.length+1:=by omega
      have HLL:=Hid.mk hLl;generalize L[i].1=lx at *;generalize txt L[i].2=ly at *;clear hc6 hB6 hBw hP6 hQ6 hT6 hRP hgw hLl HRM HPx;go_wp2_with fail;go_region
      all_goals
       go_wp2;go_end0
       have hbs:∀(W:World) (o:Nat) (u:Value),But (q::gl (.slice (some ⟨g,0,none⟩) T.length cap)) w W→But (q::gl (.slice (some ⟨g,0,none⟩) T.length cap)) w (W.setCell ⟨g6,o,none⟩ u):=fun W o u h=>by
        rcases HG6.out with e|e
        ·exact h.set (by unfold gl;rw [←e];simp) u
        ·exact h.setN e u
       refine ⟨.slice (some ⟨g6,0,none⟩) (T.length+1) cap6,rfl,?_,?_,?_,?_⟩
       ·repeat (first|exact HQ6.out|refine BoxC.bel ?_ (Bel.step_drew (Bel.refl _))|refine BoxC.bel ?_ (Bel.step_drewN (Bel.refl _) _)|refine BoxC.setO ?_ hgq6 _)
       ·first|exact HN.out|exact HN.out.later (Bel.step_drew (Bel.refl _))
       ·repeat (first|exact HBw.out|refine But.drew ?_|refine But.drewN ?_ _|refine hbs _ _ _ ?_)
       ·rcases HG6.out with e|e
        ·exact Or.inl e
        ·exact Or.inr ⟨g6,rfl,e⟩
     ·skip;obtain ⟨g',hgg,e0,e1⟩:=hc i hilt;obtain rfl:g=g':=by simpa using hgg
      have e0':=hb.cell e0;have hd1:(((i:Int))==(T.length:Int))=false:=by rw [beq_eq_false_iff_ne];omega
      have hd2:((T[i].1:Int) !=(n:Int))=true:=by rw [bne_iff_ne];omega
      clear hT1 hc e0 e1;generalize T[i].1=xk at *;go_wp2_with fail;go_quiet (fail);go_wp2_with fail;go_quiet (fail);go_wp2_with fail;refine Calls.mono (HRM.out _ ?h1) ?_
      case h1=>(repeat (first|exact hb|refine Bel.step_drewN ?_ _|refine Bel.step_drew ?_))
      rintro e w6 ⟨g6,cap6,L,rfl,hQ6,hT6,hRP,hB6,hgw⟩;have hBw:But (q::gl (.slice (some ⟨g,0,none⟩) T.length cap)) w w6:=(But.of_bel (M:=q::gl (.slice (some ⟨g,0,none⟩) T.length cap)) (HB0.out.trans (by (repeat (first|exact hb|refine Bel.step_drewN ?_ _|refine Bel.step_drew ?_))))).trans hB6
      have hP6 : BoxC w.heap.size 196 #[.int .i64 (n : Int), .string (txt b)] w6 := (HP0.out.bel (by (repeat (first | exact hb | refine Bel.step_drewN ?_ _ | refine Bel.step_drew ?_)))).but hB6 (fun hm => by
        rcases List.mem_cons.1 hm with e | e
        · omega
        · have := hvl.out w.heap.size (by unfold gl at e; exact Option.mem_toList.1 e)
          omega)
      have v0:=hP6.cell 0 rfl;have v1:=hP6.cell 1 rfl;have u13:=hQ6.cell 13 (set13 H13.out);have hgq6:g6≠q:=hT6.nbox hQ6 htq;have hLl:=hRP.1;have hiL:i<L.length:=by omega
      obtain ⟨ao',cap',hv,hc6⟩:=hT6.open;simp only [Value.slice.injEq] at hv;obtain ⟨rfl, -,rfl⟩:=hv;obtain ⟨g',hg',d0,d1⟩:=hc6 i hiL;cases hg';have fr0:=hT6.free (i * 2);have fr1:=hT6.free (i * 2+1);have HN:=Hid.mk (hT6.set i (n,b));rw [HSET.out L hRP] at HN;have HQ6:=Hid.mk hQ6;have HBw:=Hid.mk hBw
      have HG6:Hid (some g6=(Value.slice (some ⟨g,0,none⟩) T.length cap).ownBlock∨w.heap.size≤g6):=by
       rcases hgw with h|h
       ·exact Or.inl h
       ·right;have h8:=HB0.out.size;have h9:W0.heap.size≤_:=Bel.size (a:=W0) (by (repeat (first|exact hb|refine Bel.step_drewN ?_ _|refine Bel.step_drew ?_)));exact Nat.le_trans h8 (Nat.le_trans h9 h)
      have hiT:i<T.length+1:=by omega
      have HLL:=Hid.mk hLl;generalize L[i].1=lx at *;generalize txt L[i].2=ly at *;clear hc6 hB6 hBw hP6 hQ6 hT6 hRP hgw hLl HRM HPx;go_wp2_with fail;go_region
      all_goals
       go_wp2;go_end0
       have hbs:∀(W:World) (o:Nat) (u:Value),But (q::gl (.slice (some ⟨g,0,none⟩) T.length cap)) w W→But (q::gl (.slice (some ⟨g,0,none⟩) T.length cap)) w (W.setCell ⟨g6,o,none⟩ u):=fun W o u h=>by
        rcases HG6.out with e|e
        ·exact h.set (by unfold gl;rw [←e];simp) u
        ·exact h.setN e u
       refine ⟨.slice (some ⟨g6,0,none⟩) (T.length+1) cap6,rfl,?_,?_,?_,?_⟩
       ·repeat (first|exact HQ6.out|refine BoxC.bel ?_ (Bel.step_drew (Bel.refl _))|refine BoxC.bel ?_ (Bel.step_drewN (Bel.refl _) _)|refine BoxC.setO ?_ hgq6 _)
       ·first|exact HN.out|exact HN.out.later (Bel.step_drew (Bel.refl _))
       ·repeat (first|exact HBw.out|refine But.drew ?_|refine But.drewN ?_ _|refine hbs _ _ _ ?_)
       ·rcases HG6.out with e|e
        ·exact Or.inl e
        ·exact Or.inr ⟨g6,rfl,e⟩
end Go.Proofs.YtpapdkhjdelfcabGreat
