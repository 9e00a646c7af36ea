import Derived.Test.YtpapdkhjdelfcabGreatLAZ
namespace Go.Proofs.YtpapdkhjdelfcabGreat
open Go.RowKit
set_option maxRecDepth 100000
set_option maxHeartbeats 4000000
def Du (w:World) (b:Nat) (s:S4):Prop:=∃x0 x1 x2 x3 x4 x5 x6 x7:Int,(Af x0∧Af x1∧Af x2∧Af x3∧Af x4∧Af x5∧Af x6∧Af x7)∧
 (w.cell? ⟨b, 0, none⟩ = some (.int .i64 x0) ∧ w.cell? ⟨b, 1, none⟩ = some (.int .i64 x1) ∧ w.cell? ⟨b, 2, none⟩ = some (.int .i64 x2) ∧ w.cell? ⟨b, 3, none⟩ = some (.int .i64 x3) ∧
 w.cell? ⟨b, 4, none⟩ = some (.int .i64 x4) ∧ w.cell? ⟨b, 5, none⟩ = some (.int .i64 x5) ∧ w.cell? ⟨b, 6, none⟩ = some (.int .i64 x6) ∧ w.cell? ⟨b, 7, none⟩ = some (.int .i64 x7)) ∧
 wv x0 x1=s.a∧wv x2 x3=s.b∧wv x4 x5=s.c∧wv x6 x7=s.d
theorem Du.later {a w:World} (h:Aa a w) {b:Nat} {s:S4} (k:Du a b s):Du w b s:=by
 obtain ⟨x0,x1,x2,x3,x4,x5,x6,x7,hx,⟨c0,c1,c2,c3,c4,c5,c6,c7⟩,he⟩:=k;exact ⟨x0,x1,x2,x3,x4,x5,x6,x7,hx,⟨h.cell c0,h.cell c1,h.cell c2,h.cell c3,h.cell c4,h.cell c5,h.cell c6,h.cell c7⟩,he⟩
def Sy (w:World) (s:S4) (e:Ending) (w':World):Prop:=∃b' cap':Nat,e= .returned (.slice (some ⟨b',0,none⟩) 4 cap')∧Aa w w'∧Du w' b' s
def S4.rounds (s:S4):Nat→S4
 |0=>s
 |n+1=>S4.rounds s.round n
def AX (base:Nat) (w:World) (v:Value) (X:Int):Prop:=∃(p:Nat) (x y:Int),v= .pointer (some ⟨p,0,none⟩)∧base≤p∧w.cell? ⟨p,0,none⟩=some (.int .i64 x)∧w.cell? ⟨p,1,none⟩=some (.int .i64 y)∧w.frozen? ⟨p,0,none⟩=false∧w.frozen? ⟨p,1,none⟩=false∧Af x∧Af y∧wv x y=X
theorem AX.later {B:Nat} {a w:World} {v:Value} {X:Int} (k:AX B a v X) (h:Aa a w):AX B w v X:=by
 obtain ⟨p,x,y,rfl,hp,c0,c1,f0,f1,r⟩:=k;exact ⟨p,x,y,rfl,hp,h.cell c0,h.cell c1,h.frozen c0 f0,h.frozen c1 f1,r⟩
theorem AX.new {B:Nat} {w:World} {x y X:Int} (hB:B≤w.heap.size) (hx:Af x) (hy:Af y) (hX:wv x y=X) (t:TypeId):AX B (w.alloc (.cells #[.int .i64 x,.int .i64 y] t)) (.pointer (some ⟨w.heap.size,0,none⟩)) X:=
 ⟨_,x,y,rfl,hB,by simp,by simp,by simp,by simp,hx,hy,hX⟩
theorem AX.stored {B:Nat} {w:World} {p:Nat} {u0 u1:Value} {X:Int} (hp:B≤p) (h0:w.cell? ⟨p,0,none⟩=some u0) (h1:w.cell? ⟨p,1,none⟩=some u1) (f0:w.frozen? ⟨p,0,none⟩=false) (f1:w.frozen? ⟨p,1,none⟩=false) {x y:Int} (hx:Af x) (hy:Af y) (hX:wv x y=X):
  AX B ((w.setCell ⟨p,0,none⟩ (.int .i64 x)).setCell ⟨p,1,none⟩ (.int .i64 y)) (.pointer (some ⟨p,0,none⟩)) X:=by
 refine ⟨p,x,y,rfl,hp,?_,?_,by rw [Ag,Ag];exact f0,by rw [Ag,Ag];exact f1,hx,hy,hX⟩
 ·rw [Ad (by simp)];exact Bc h0
 ·exact Bc (v:=u1) (by rw [Ad (by simp)];exact h1)
def AP (w:World) (vs:List (Value×Int)) (wc:World):Prop:=Aa w wc∧(∀v∈vs,AX w.heap.size wc v.1 v.2)∧(vs.map (·.1)).Nodup
theorem AP.nil (w:World):AP w [] w:=⟨jD _,fun v hv=>by simp at hv,by simp⟩
theorem AP.later {w a:World} {vs:List (Value×Int)} (h:AP w vs a) {w':World} (k:Aa a w'):AP w vs w':=⟨h.1.trans k,fun v hv=>(h.2.1 v hv).later k,h.2.2⟩
theorem AP.more {w a w':World} {vs:List (Value×Int)} {p:Nat} {X:Int} (h:AP w vs a) (k:Aa a w') (hb:AX w.heap.size w' (.pointer (some ⟨p,0,none⟩)) X) (hp:a.heap.size≤p):AP w (vs++[(.pointer (some ⟨p,0,none⟩),X)]) w':=by
 refine ⟨h.1.trans k,fun v hv=>?_,?_⟩
 ·rcases jT.1 hv with hv|hv
  ·exact (h.2.1 v hv).later k
  ·rw [jP.1 hv];exact hb
 ·rw [List.map_append,List.nodup_append];refine ⟨h.2.2,by simp,fun u hu z hz=>?_⟩;obtain ⟨v,hv,rfl⟩:=List.mem_map.1 hu;obtain ⟨q,x,y,e, -,c0, -⟩:=h.2.1 v hv;have hq:=jF c0;simp only [List.map_cons,List.map_nil,jP] at hz;subst hz;rw [e];intro e2;simp only [Value.pointer.injEq,Option.some.injEq,Addr.mk.injEq,and_true] at e2;simp only at hq;omega
theorem AP.put {w a w2:World} {vs:List (Value×Int)} {p:Nat} {X X':Int} (h:AP w vs a) (k:Aa a w2) (i:Nat) (hi:vs[i]?=some (.pointer (some ⟨p,0,none⟩),X)) {x y:Int} (hx:Af x) (hy:Af y) (hX:wv x y=X'):
  AP w (vs.set i (.pointer (some ⟨p,0,none⟩),X')) ((w2.setCell ⟨p,0,none⟩ (.int .i64 x)).setCell ⟨p,1,none⟩ (.int .i64 y)):=by
 have hil:=(List.getElem?_eq_some_iff.1 hi).1;have hie:=(List.getElem?_eq_some_iff.1 hi).2;obtain ⟨q,x0,y0,e,hp,c0,c1,f0,f1, -⟩:=(h.2.1 _ (List.mem_of_getElem? hi)).later k;simp only [Value.pointer.injEq,Option.some.injEq,Addr.mk.injEq,and_true] at e;subst e
 have hmap:(vs.set i (.pointer (some ⟨p,0,none⟩),X')).map (·.1)=vs.map (·.1):=by
  apply List.ext_getElem
  ·simp
  ·intro j j1 j2;simp only [List.getElem_map,List.getElem_set];split
   ·rename_i e;subst e;simp [hie]
   ·rfl
 refine ⟨((h.1.trans k).step_set (p:=⟨p,0,none⟩) hp _).step_set (p:=⟨p,1,none⟩) hp _,fun v hv=>?_,by rw [hmap];exact h.2.2⟩;obtain ⟨j,hj,rfl⟩:=List.mem_iff_getElem.1 hv;have hj':j<vs.length:=by simpa using hj
 by_cases hij:i=j
 ·subst hij;simp only [List.getElem_set_self];exact AX.stored hp c0 c1 f0 f1 hx hy hX
 ·simp only [List.getElem_set_ne hij];obtain ⟨r,x1,y1,e1,hr,d0,d1,g0,g1,rr⟩:=(h.2.1 _ (jJ hj')).later k
  have hne:p≠r:=fun e2=>by
   have hn:=List.pairwise_iff_getElem.1 h.2.2
   have hh:(vs.map (·.1))[i]'(by simpa using hil)=(vs.map (·.1))[j]'(by simpa using hj'):=by
    simp only [List.getElem_map,hie,e1,e2]
   rcases Nat.lt_or_gt_of_ne hij with h1|h1
   ·exact hn i j (by simpa using hil) (by simpa using hj') h1 hh
   ·exact hn j i (by simpa using hj') (by simpa using hil) h1 hh.symm
  refine ⟨r,x1,y1,e1,hr,?_,?_,by rw [Ag,Ag];exact g0,by rw [Ag,Ag];exact g1,rr⟩
  ·rw [Ad (Or.inl hne),Ad (Or.inl hne)];exact d0
  ·rw [Ad (Or.inl hne),Ad (Or.inl hne)];exact d1
theorem Om (b cap:Nat) (n:Nat) (s:S4) (w:World) (hn2:n≤4) (h4:Du w b s):
  Calls Tryz.prog 208 #[.slice (some ⟨b,0,none⟩) 4 cap,.int .i64 n] w (Sy w (s.rounds n)):=by
 obtain ⟨R,hR⟩:∃R,R=s.rounds n:=⟨_,rfl⟩;rw [←hR];have HR:=jp hR;clear hR;go_enter Tryz.func208,Tryz.ntmps208;go_wp2;go_loopg [0,1] n (fun g v i wr=>∃(b' cap' q:Nat) (t:S4),v= .slice (some ⟨b',0,none⟩) 4 cap'∧i= .int .i64 q∧q≤4∧g=q∧Du wr b' t∧Aa w wr∧R=t.rounds q)
 case atStart=>exact ⟨b,cap,n,s,rfl,rfl,hn2,rfl,h4,jD _,HR.out⟩
 case round=>
  obtain ⟨b',cap',q,t,rfl,rfl,hq2,hg,h4',hb,hRt⟩:=hrel;clear h4;have HRT:=jp hRt;clear hRt HR;by_cases hlt:0<q
  ·have HB:=jp hb;obtain ⟨q,rfl⟩:∃q',q=q'+1:=⟨q - 1,by omega⟩;obtain ⟨x0,x1,x2,x3,x4,x5,x6,x7,⟨g0,g1,g2,g3,g4,g5,g6,g7⟩,⟨o0,o1,o2,o3,o4,o5,o6,o7⟩,e0,e1,e2,e3⟩:=h4';obtain ⟨ta,tb,tc,td⟩:=t;simp only at e0 e1 e2 e3;have hS:AP wr [] wr:=AP.nil wr;clear hb;obtain ⟨a1,E0⟩:∃X,X=G4 ta tb:=⟨_,rfl⟩;have H0:=jp E0;clear E0;obtain ⟨b0,E1⟩:∃X,X=Ca tb 13:=⟨_,rfl⟩;have H1:=jp E1;clear E1;obtain ⟨b1,E2⟩:∃X,X=Be b0 a1:=⟨_,rfl⟩;have H2:=jp E2;clear E2;obtain ⟨a2,E3⟩:∃X,X=Ca a1 32:=⟨_,rfl⟩;have H3:=jp E3;clear E3;obtain ⟨c1,E4⟩:∃X,X=G4 tc td:=⟨_,rfl⟩;have H4:=jp E4;clear E4;obtain ⟨d0,E5⟩:∃X,X=Ca td 16:=⟨_,rfl⟩;have H5:=jp E5;clear E5;obtain ⟨d1,E6⟩:∃X,X=Be d0 c1:=⟨_,rfl⟩;have H6:=jp E6;clear E6;obtain ⟨a3,E7⟩:∃X,X=G4 a2 d1:=⟨_,rfl⟩;have H7:=jp E7;clear E7;obtain ⟨d2,E8⟩:∃X,X=Ca d1 21:=⟨_,rfl⟩;have H8:=jp E8;clear E8;obtain ⟨d3,E9⟩:∃X,X=Be d2 a3:=⟨_,rfl⟩;have H9:=jp E9;clear E9;obtain ⟨c2,E10⟩:∃X,X=G4 c1 b1:=⟨_,rfl⟩;have H10:=jp E10;clear E10;obtain ⟨b2,E11⟩:∃X,X=Ca b1 17:=⟨_,rfl⟩;have H11:=jp E11;clear E11;obtain ⟨b3,E12⟩:∃X,X=Be b2 c2:=⟨_,rfl⟩;have H12:=jp E12;clear E12;obtain ⟨c3,E13⟩:∃X,X=Ca c2 32:=⟨_,rfl⟩;have H13:=jp E13;clear E13
   have HFIN:Hid (R=S4.rounds ⟨a3,b3,c3,d3⟩ q):=by
    show R=_;rw [HRT.out];show S4.rounds (S4.round ⟨ta,tb,tc,td⟩) q=_;congr 1;rw [H13.out,H12.out,H11.out,H10.out,H9.out,H8.out,H7.out,H6.out,H5.out,H4.out,H3.out,H2.out,H1.out,H0.out];rfl
   clear HRT;have hd1:decide (((q+1:Nat):Int)>0)=true:=jL (by omega);go_wp2_with fail;go_cut [5] (fun u5 wc=>AP wr [(u5,a1)] wc)
   case first=>
    have c0:=hS.1.cell o0;have c1:=hS.1.cell o1;have c2:=hS.1.cell o2;have c3:=hS.1.cell o3;go_region_held3 (fun w'=>Aa wr w'∧w'.cell? ⟨b',0,none⟩=some (.int .i64 x0)∧w'.cell? ⟨b',1,none⟩=some (.int .i64 x1)∧w'.cell? ⟨b',2,none⟩=some (.int .i64 x2)∧w'.cell? ⟨b',3,none⟩=some (.int .i64 x3)) ((refine If ?_ c0 c1 c2 c3;(repeat (first|exact jD _|assumption|refine jA ?_|refine jB ?_|refine jC ?_|refine Aa.step_set ?_ (by simp <;>omega) _|refine jE ?_ (by assumption))))) ((go_at_call 229;refine (Iw _ _ _ _ _ g0 g1 g2 g3).mono ?_;rintro e w2 ⟨z0,z1,rfl,hb2,k0,k1,ez⟩;obtain ⟨hq2,hf2⟩:=hb2.cells))
    all_goals
     have EZ:Hid (wv z0 z1=a1):=by
      show wv z0 z1=_;have ez':=show wv z0 z1=_ from ez
      rw [e0,e1] at ez';rw [H0.out];exact ez'
     clear ez;go_wp2_with fail;go_meet
     case rel=>
      have hB:Aa wr w2:=by (repeat (first|exact jD _|assumption|refine jA ?_|refine jB ?_|refine jC ?_|refine Aa.step_set ?_ (by simp <;>omega) _|refine jE ?_ (by assumption)))
      have hw:=(hS.1.trans hB).size;have hw1:=hS.1.size
      first
       |exact hS.more (hB.step_alloc _) (AX.new hw k0 k1 EZ.out _) hB.size
       |exact hS.more ((hB.step_set (p:=⟨wr.heap.size,0,none⟩) (jH _) _).step_set (p:=⟨wr.heap.size,1,none⟩) (jH _) _) (AX.stored hw1 ((hq2 _ _ (by simp)).trans (by simp;rfl)) ((hq2 _ _ (by simp)).trans (by simp;rfl)) ((hf2 _ _ (by simp)).trans (by simp)) ((hf2 _ _ (by simp)).trans (by simp)) k0 k1 EZ.out) (jH _)
   case rest=>
    replace hS:=hcut;clear hcut;go_upto_region 4 with fail
    go_cut [6] (fun u6 wc=>AP wr [(u5,a1),(u6,b0)] wc)
    case first=>
     have c2:=hS.1.cell o2;have c3:=hS.1.cell o3;go_wp2_with fail;refine (Ih _ _ _ _ g2 g3 (by decide)).mono ?_;rintro e w2 ⟨z0,z1,rfl,hb2,k0,k1,ez⟩
     have EZ:Hid (wv z0 z1=b0):=by
      show wv z0 z1=_;have ez':=show wv z0 z1=_ from ez
      rw [e1] at ez';rw [H1.out];exact ez'
     clear ez;go_wp2_with fail;go_meet
     case rel=>
      have hB:Aa wc w2:=by (repeat (first|exact jD _|assumption|refine jA ?_|refine jB ?_|refine jC ?_|refine Aa.step_set ?_ (by simp <;>omega) _|refine jE ?_ (by assumption)))
      exact hS.more (hB.step_alloc _) (AX.new (hS.1.trans hB).size k0 k1 EZ.out _) hB.size
    case rest=>
     replace hS:=hcut;clear hcut;go_upto_region 5 with fail
     go_cut [] (fun wc=>AP wr [(u5,a1),(u6,b1)] wc)
     case first=>
      obtain ⟨p6,X6,Y6,rfl,hp6,c60,c61,f60,f61,hX6,hY6,hV6⟩:=hS.2.1 (u6,b0) (by simp);obtain ⟨p5,X5,Y5,rfl,hp5,c50,c51,f50,f51,hX5,hY5,hV5⟩:=hS.2.1 (u5,a1) (by simp);go_wp2_with fail;refine (Fb _ _ _ _ _ hX6 hY6 hX5 hY5).mono ?_;rintro e w2 ⟨z0,z1,rfl,hb2,k0,k1,ez⟩
      have EZ:Hid (wv z0 z1=b1):=by
       show wv z0 z1=_;have ez':=show wv z0 z1=_ from ez
       rw [hV6,hV5] at ez';rw [H2.out];exact ez'
      clear ez;have d60:=hb2.cell c60;have d61:=hb2.cell c61;have e60:=hb2.frozen c60 f60;have e61:=hb2.frozen c61 f61;go_wp2_with fail;go_meet
      case rel=>
       have hB:Aa wc w2:=by (repeat (first|exact jD _|assumption|refine jA ?_|refine jB ?_|refine jC ?_|refine Aa.step_set ?_ (by simp <;>omega) _|refine jE ?_ (by assumption)))
       exact hS.put hB 1 rfl k0 k1 EZ.out
     case rest=>
      replace hS:=hcut;clear hcut;go_upto_region 6 with fail
      go_cut [] (fun wc=>AP wr [(u5,a2),(u6,b1)] wc)
      case first=>
       obtain ⟨p5,X5,Y5,rfl,hp5,c50,c51,f50,f51,hX5,hY5,hV5⟩:=hS.2.1 (u5,a1) (by simp);go_wp2_with fail;refine (Ih _ _ _ _ hX5 hY5 (by decide)).mono ?_;rintro e w2 ⟨z0,z1,rfl,hb2,k0,k1,ez⟩
       have EZ:Hid (wv z0 z1=a2):=by
        show wv z0 z1=_;have ez':=show wv z0 z1=_ from ez
        rw [hV5] at ez';rw [H3.out];exact ez'
       clear ez;have d50:=hb2.cell c50;have d51:=hb2.cell c51;have e50:=hb2.frozen c50 f50;have e51:=hb2.frozen c51 f51;go_wp2_with fail;go_meet
       case rel=>
        have hB:Aa wc w2:=by (repeat (first|exact jD _|assumption|refine jA ?_|refine jB ?_|refine jC ?_|refine Aa.step_set ?_ (by simp <;>omega) _|refine jE ?_ (by assumption)))
        exact hS.put hB 0 rfl k0 k1 EZ.out
      case rest=>
       replace hS:=hcut;clear hcut;go_upto_region 7 with fail
       go_cut [7] (fun u7 wc=>AP wr [(u5,a2),(u6,b1),(u7,c1)] wc)
       case first=>
        have c4:=hS.1.cell o4;have c5:=hS.1.cell o5;have c6:=hS.1.cell o6;have c7:=hS.1.cell o7;go_region_held3 (fun w'=>Aa wc w'∧w'.cell? ⟨b',4,none⟩=some (.int .i64 x4)∧w'.cell? ⟨b',5,none⟩=some (.int .i64 x5)∧w'.cell? ⟨b',6,none⟩=some (.int .i64 x6)∧w'.cell? ⟨b',7,none⟩=some (.int .i64 x7)) ((refine If ?_ c4 c5 c6 c7;(repeat (first|exact jD _|assumption|refine jA ?_|refine jB ?_|refine jC ?_|refine Aa.step_set ?_ (by simp <;>omega) _|refine jE ?_ (by assumption))))) ((go_at_call 229;refine (Iw _ _ _ _ _ g4 g5 g6 g7).mono ?_;rintro e w2 ⟨z0,z1,rfl,hb2,k0,k1,ez⟩;obtain ⟨hq2,hf2⟩:=hb2.cells))
        all_goals
         have EZ:Hid (wv z0 z1=c1):=by
          show wv z0 z1=_;have ez':=show wv z0 z1=_ from ez
          rw [e2,e3] at ez';rw [H4.out];exact ez'
         clear ez;go_wp2_with fail;go_meet
         case rel=>
          have hB:Aa wc w2:=by (repeat (first|exact jD _|assumption|refine jA ?_|refine jB ?_|refine jC ?_|refine Aa.step_set ?_ (by simp <;>omega) _|refine jE ?_ (by assumption)))
          have hw:=(hS.1.trans hB).size;have hw1:=hS.1.size
          first
           |exact hS.more (hB.step_alloc _) (AX.new hw k0 k1 EZ.out _) hB.size
           |exact hS.more ((hB.step_set (p:=⟨wc.heap.size,0,none⟩) (jH _) _).step_set (p:=⟨wc.heap.size,1,none⟩) (jH _) _) (AX.stored hw1 ((hq2 _ _ (by simp)).trans (by simp;rfl)) ((hq2 _ _ (by simp)).trans (by simp;rfl)) ((hf2 _ _ (by simp)).trans (by simp)) ((hf2 _ _ (by simp)).trans (by simp)) k0 k1 EZ.out) (jH _)
       case rest=>
        replace hS:=hcut;clear hcut;go_upto_region 8 with fail
        go_cut [8] (fun u8 wc=>AP wr [(u5,a2),(u6,b1),(u7,c1),(u8,d0)] wc)
        case first=>
         have c6:=hS.1.cell o6;have c7:=hS.1.cell o7;go_wp2_with fail;refine (Ih _ _ _ _ g6 g7 (by decide)).mono ?_;rintro e w2 ⟨z0,z1,rfl,hb2,k0,k1,ez⟩
         have EZ:Hid (wv z0 z1=d0):=by
          show wv z0 z1=_;have ez':=show wv z0 z1=_ from ez
          rw [e3] at ez';rw [H5.out];exact ez'
         clear ez;go_wp2_with fail;go_meet
         case rel=>
          have hB:Aa wc w2:=by (repeat (first|exact jD _|assumption|refine jA ?_|refine jB ?_|refine jC ?_|refine Aa.step_set ?_ (by simp <;>omega) _|refine jE ?_ (by assumption)))
          exact hS.more (hB.step_alloc _) (AX.new (hS.1.trans hB).size k0 k1 EZ.out _) hB.size
        case rest=>
         replace hS:=hcut;clear hcut;go_upto_region 9 with fail
         go_cut [] (fun wc=>AP wr [(u5,a2),(u6,b1),(u7,c1),(u8,d1)] wc)
         case first=>
          obtain ⟨p8,X8,Y8,rfl,hp8,c80,c81,f80,f81,hX8,hY8,hV8⟩:=hS.2.1 (u8,d0) (by simp);obtain ⟨p7,X7,Y7,rfl,hp7,c70,c71,f70,f71,hX7,hY7,hV7⟩:=hS.2.1 (u7,c1) (by simp);go_wp2_with fail;refine (Fb _ _ _ _ _ hX8 hY8 hX7 hY7).mono ?_;rintro e w2 ⟨z0,z1,rfl,hb2,k0,k1,ez⟩
          have EZ:Hid (wv z0 z1=d1):=by
           show wv z0 z1=_;have ez':=show wv z0 z1=_ from ez
           rw [hV8,hV7] at ez';rw [H6.out];exact ez'
          clear ez;have d80:=hb2.cell c80;have d81:=hb2.cell c81;have e80:=hb2.frozen c80 f80;have e81:=hb2.frozen c81 f81;go_wp2_with fail;go_meet
          case rel=>
           have hB:Aa wc w2:=by (repeat (first|exact jD _|assumption|refine jA ?_|refine jB ?_|refine jC ?_|refine Aa.step_set ?_ (by simp <;>omega) _|refine jE ?_ (by assumption)))
           exact hS.put hB 3 rfl k0 k1 EZ.out
         case rest=>
          replace hS:=hcut;clear hcut;go_upto_region 10 with fail
          go_cut [] (fun wc=>AP wr [(u5,a3),(u6,b1),(u7,c1),(u8,d1)] wc)
          case first=>
           obtain ⟨p5,X5,Y5,rfl,hp5,c50,c51,f50,f51,hX5,hY5,hV5⟩:=hS.2.1 (u5,a2) (by simp);obtain ⟨p8,X8,Y8,rfl,hp8,c80,c81,f80,f81,hX8,hY8,hV8⟩:=hS.2.1 (u8,d1) (by simp);go_wp2_with fail;refine (Iw _ _ _ _ _ hX5 hY5 hX8 hY8).mono ?_;rintro e w2 ⟨z0,z1,rfl,hb2,k0,k1,ez⟩
           have EZ:Hid (wv z0 z1=a3):=by
            show wv z0 z1=_;have ez':=show wv z0 z1=_ from ez
            rw [hV5,hV8] at ez';rw [H7.out];exact ez'
           clear ez;have d50:=hb2.cell c50;have d51:=hb2.cell c51;have e50:=hb2.frozen c50 f50;have e51:=hb2.frozen c51 f51;go_wp2_with fail;go_meet
           case rel=>
            have hB:Aa wc w2:=by (repeat (first|exact jD _|assumption|refine jA ?_|refine jB ?_|refine jC ?_|refine Aa.step_set ?_ (by simp <;>omega) _|refine jE ?_ (by assumption)))
            exact hS.put hB 0 rfl k0 k1 EZ.out
          case rest=>
           replace hS:=hcut;clear hcut;go_upto_region 11 with fail
           go_cut [] (fun wc=>AP wr [(u5,a3),(u6,b1),(u7,c1),(u8,d2)] wc)
           case first=>
            obtain ⟨p8,X8,Y8,rfl,hp8,c80,c81,f80,f81,hX8,hY8,hV8⟩:=hS.2.1 (u8,d1) (by simp);go_wp2_with fail;refine (Ih _ _ _ _ hX8 hY8 (by decide)).mono ?_;rintro e w2 ⟨z0,z1,rfl,hb2,k0,k1,ez⟩
            have EZ:Hid (wv z0 z1=d2):=by
             show wv z0 z1=_;have ez':=show wv z0 z1=_ from ez
             rw [hV8] at ez';rw [H8.out];exact ez'
            clear ez;have d80:=hb2.cell c80;have d81:=hb2.cell c81;have e80:=hb2.frozen c80 f80;have e81:=hb2.frozen c81 f81;go_wp2_with fail;go_meet
            case rel=>
             have hB:Aa wc w2:=by (repeat (first|exact jD _|assumption|refine jA ?_|refine jB ?_|refine jC ?_|refine Aa.step_set ?_ (by simp <;>omega) _|refine jE ?_ (by assumption)))
             exact hS.put hB 3 rfl k0 k1 EZ.out
           case rest=>
            replace hS:=hcut;clear hcut;go_upto_region 12 with fail
            go_cut [] (fun wc=>AP wr [(u5,a3),(u6,b1),(u7,c1),(u8,d3)] wc)
            case first=>
             obtain ⟨p8,X8,Y8,rfl,hp8,c80,c81,f80,f81,hX8,hY8,hV8⟩:=hS.2.1 (u8,d2) (by simp);obtain ⟨p5,X5,Y5,rfl,hp5,c50,c51,f50,f51,hX5,hY5,hV5⟩:=hS.2.1 (u5,a3) (by simp);go_wp2_with fail;refine (Fb _ _ _ _ _ hX8 hY8 hX5 hY5).mono ?_;rintro e w2 ⟨z0,z1,rfl,hb2,k0,k1,ez⟩
             have EZ:Hid (wv z0 z1=d3):=by
              show wv z0 z1=_;have ez':=show wv z0 z1=_ from ez
              rw [hV8,hV5] at ez';rw [H9.out];exact ez'
             clear ez;have d80:=hb2.cell c80;have d81:=hb2.cell c81;have e80:=hb2.frozen c80 f80;have e81:=hb2.frozen c81 f81;go_wp2_with fail;go_meet
             case rel=>
              have hB:Aa wc w2:=by (repeat (first|exact jD _|assumption|refine jA ?_|refine jB ?_|refine jC ?_|refine Aa.step_set ?_ (by simp <;>omega) _|refine jE ?_ (by assumption)))
              exact hS.put hB 3 rfl k0 k1 EZ.out
            case rest=>
             replace hS:=hcut;clear hcut;go_upto_region 13 with fail
             go_cut [] (fun wc=>AP wr [(u5,a3),(u6,b1),(u7,c2),(u8,d3)] wc)
             case first=>
              obtain ⟨p7,X7,Y7,rfl,hp7,c70,c71,f70,f71,hX7,hY7,hV7⟩:=hS.2.1 (u7,c1) (by simp);obtain ⟨p6,X6,Y6,rfl,hp6,c60,c61,f60,f61,hX6,hY6,hV6⟩:=hS.2.1 (u6,b1) (by simp);go_wp2_with fail;refine (Iw _ _ _ _ _ hX7 hY7 hX6 hY6).mono ?_;rintro e w2 ⟨z0,z1,rfl,hb2,k0,k1,ez⟩
              have EZ:Hid (wv z0 z1=c2):=by
               show wv z0 z1=_;have ez':=show wv z0 z1=_ from ez
               rw [hV7,hV6] at ez';rw [H10.out];exact ez'
              clear ez;have d70:=hb2.cell c70;have d71:=hb2.cell c71;have e70:=hb2.frozen c70 f70;have e71:=hb2.frozen c71 f71;go_wp2_with fail;go_meet
              case rel=>
               have hB:Aa wc w2:=by (repeat (first|exact jD _|assumption|refine jA ?_|refine jB ?_|refine jC ?_|refine Aa.step_set ?_ (by simp <;>omega) _|refine jE ?_ (by assumption)))
               exact hS.put hB 2 rfl k0 k1 EZ.out
             case rest=>
              replace hS:=hcut;clear hcut;go_upto_region 14 with fail
              go_cut [] (fun wc=>AP wr [(u5,a3),(u6,b2),(u7,c2),(u8,d3)] wc)
              case first=>
               obtain ⟨p6,X6,Y6,rfl,hp6,c60,c61,f60,f61,hX6,hY6,hV6⟩:=hS.2.1 (u6,b1) (by simp);go_wp2_with fail;refine (Ih _ _ _ _ hX6 hY6 (by decide)).mono ?_;rintro e w2 ⟨z0,z1,rfl,hb2,k0,k1,ez⟩
               have EZ:Hid (wv z0 z1=b2):=by
                show wv z0 z1=_;have ez':=show wv z0 z1=_ from ez
                rw [hV6] at ez';rw [H11.out];exact ez'
               clear ez;have d60:=hb2.cell c60;have d61:=hb2.cell c61;have e60:=hb2.frozen c60 f60;have e61:=hb2.frozen c61 f61;go_wp2_with fail;go_meet
               case rel=>
                have hB:Aa wc w2:=by (repeat (first|exact jD _|assumption|refine jA ?_|refine jB ?_|refine jC ?_|refine Aa.step_set ?_ (by simp <;>omega) _|refine jE ?_ (by assumption)))
                exact hS.put hB 1 rfl k0 k1 EZ.out
              case rest=>
               replace hS:=hcut;clear hcut;go_upto_region 15 with fail
               go_cut [] (fun wc=>AP wr [(u5,a3),(u6,b3),(u7,c2),(u8,d3)] wc)
               case first=>
                obtain ⟨p6,X6,Y6,rfl,hp6,c60,c61,f60,f61,hX6,hY6,hV6⟩:=hS.2.1 (u6,b2) (by simp);obtain ⟨p7,X7,Y7,rfl,hp7,c70,c71,f70,f71,hX7,hY7,hV7⟩:=hS.2.1 (u7,c2) (by simp);go_wp2_with fail;refine (Fb _ _ _ _ _ hX6 hY6 hX7 hY7).mono ?_;rintro e w2 ⟨z0,z1,rfl,hb2,k0,k1,ez⟩
                have EZ:Hid (wv z0 z1=b3):=by
                 show wv z0 z1=_;have ez':=show wv z0 z1=_ from ez
                 rw [hV6,hV7] at ez';rw [H12.out];exact ez'
                clear ez;have d60:=hb2.cell c60;have d61:=hb2.cell c61;have e60:=hb2.frozen c60 f60;have e61:=hb2.frozen c61 f61;go_wp2_with fail;go_meet
                case rel=>
                 have hB:Aa wc w2:=by (repeat (first|exact jD _|assumption|refine jA ?_|refine jB ?_|refine jC ?_|refine Aa.step_set ?_ (by simp <;>omega) _|refine jE ?_ (by assumption)))
                 exact hS.put hB 1 rfl k0 k1 EZ.out
               case rest=>
                replace hS:=hcut;clear hcut;go_upto_region 16 with fail
                go_cut [] (fun wc=>AP wr [(u5,a3),(u6,b3),(u7,c3),(u8,d3)] wc)
                case first=>
                 obtain ⟨p7,X7,Y7,rfl,hp7,c70,c71,f70,f71,hX7,hY7,hV7⟩:=hS.2.1 (u7,c2) (by simp);go_wp2_with fail;refine (Ih _ _ _ _ hX7 hY7 (by decide)).mono ?_;rintro e w2 ⟨z0,z1,rfl,hb2,k0,k1,ez⟩
                 have EZ:Hid (wv z0 z1=c3):=by
                  show wv z0 z1=_;have ez':=show wv z0 z1=_ from ez
                  rw [hV7] at ez';rw [H13.out];exact ez'
                 clear ez;have d70:=hb2.cell c70;have d71:=hb2.cell c71;have e70:=hb2.frozen c70 f70;have e71:=hb2.frozen c71 f71;go_wp2_with fail;go_meet
                 case rel=>
                  have hB:Aa wc w2:=by (repeat (first|exact jD _|assumption|refine jA ?_|refine jB ?_|refine jC ?_|refine Aa.step_set ?_ (by simp <;>omega) _|refine jE ?_ (by assumption)))
                  exact hS.put hB 2 rfl k0 k1 EZ.out
                case rest=>
                 replace hS:=hcut;clear hcut;obtain ⟨p5,X5,Y5,rfl,hp5,c50,c51,f50,f51,hX5,hY5,hV5⟩:=hS.2.1 (u5,a3) (by simp);obtain ⟨p6,X6,Y6,rfl,hp6,c60,c61,f60,f61,hX6,hY6,hV6⟩:=hS.2.1 (u6,b3) (by simp);obtain ⟨p7,X7,Y7,rfl,hp7,c70,c71,f70,f71,hX7,hY7,hV7⟩:=hS.2.1 (u7,c3) (by simp);obtain ⟨p8,X8,Y8,rfl,hp8,c80,c81,f80,f81,hX8,hY8,hV8⟩:=hS.2.1 (u8,d3) (by simp);go_wp2_with fail;go_roundg q
                 case measure=>omega
                 case rel=>exact ⟨wc.heap.size,4,q,⟨a3,b3,c3,d3⟩,rfl,by go_num,by omega,rfl,⟨X5,Y5,X6,Y6,X7,Y7,X8,Y8,⟨hX5,hY5,hX6,hY6,hX7,hY7,hX8,hY8⟩,⟨by simp,by simp,by simp,by simp,by simp,by simp,by simp,by simp⟩,hV5,hV6,hV7,hV8⟩,HB.out.trans (hS.1.step_alloc _),HFIN.out⟩
  ·obtain rfl:q=0:=by omega
   go_wp2;go_ret;exact ⟨b',cap',rfl,hb,by rw [HRT.out];exact h4'⟩
theorem D4 (s:ByteArray) (k:Nat) (h:k<s.size):0≤((s[k]'h).toNat:Int)∧((s[k]'h).toNat:Int)≤255:=⟨by omega,Km _⟩
theorem I6 {w w':World} {base:Nat} {e:TypeId} {size:Nat} {v:Value} {n:Nat} {xs:List Value} (h:w.ownsRow base e size v n xs) (k:Aa w w'):w'.ownsRow base e size v n xs:=by
 obtain ⟨h1,h2⟩:=h;refine ⟨h1,?_⟩;rcases h2 with h2|⟨g,cap,cur,hv,hg,hh,r⟩
 ·exact Or.inl h2
 ·exact Or.inr ⟨g,cap,cur,hv,hg,by rw [k.block g (Array.getElem?_eq_some_iff.1 hh).1];exact hh,r⟩
theorem Tryz.infoWord:(Tryz.prog.info? 181).map (fun i=>(i.zero,i.size,i.bytes))=some (some (.agg #[.int .i64 0,.int .i64 0]),2,16):=by kernel_rfl
def Fg (xs:List (Int×Int)):List Value:=xs.flatMap fun p=>[.int .i64 p.1,.int .i64 p.2]
theorem O4 (xs:List (Int×Int)) (p:Int×Int):Fg (xs++[p])=Fg xs++[.int .i64 p.1,.int .i64 p.2]:=by simp [Fg]
theorem Jx (s:ByteArray) (h:s.size=4):Af (BQ s.data.toList):=by
 have h1:=Lm s.data.toList 4;have h2:=MS s.data.toList 4;rw [jR (by simp;omega)] at h1 h2;exact ⟨h1,by simpa using h2⟩
def Bx (w:World) (vs:List Value) (wc:World):Prop:=Aa w wc∧∀v∈vs,BM w.heap.size wc v
theorem Bx.later {w a:World} {vs:List Value} (h:Bx w vs a) {w':World} (k:Aa a w'):Bx w vs w':=⟨h.1.trans k,fun v hv=>(h.2 v hv).later k⟩
theorem Bx.cons {w a : World} {vs : List Value} (h : Bx w vs a) {v : Value} (k : BM w.heap.size a v) : Bx w (v :: vs) a := ⟨h.1, fun u hu => by
  rcases ja.1 hu with rfl | hu
  · exact k
  · exact h.2 u hu⟩
theorem BM.new {B:Nat} {w:World} (h:B≤w.heap.size) {x y:Int} (hx:Af x) (hy:Af y) (t:TypeId):BM B (w.alloc (.cells #[.int .i64 x,.int .i64 y] t)) (.pointer (some ⟨w.heap.size,0,none⟩)):=
 ⟨w.heap.size,x,y,rfl,h,by simp,by simp,by simp,by simp,hx,hy⟩
theorem LT {w w':World} {a0 a1 a2 a3 a4 a5 a6 a7:Addr} {v0 v1 v2 v3 v4 v5 v6 v7:Value} (h:Aa w w') (c0:w.cell? a0=some v0) (c1:w.cell? a1=some v1) (c2:w.cell? a2=some v2) (c3:w.cell? a3=some v3) (c4:w.cell? a4=some v4) (c5:w.cell? a5=some v5) (c6:w.cell? a6=some v6) (c7:w.cell? a7=some v7):
  Aa w w'∧w'.cell? a0=some v0∧w'.cell? a1=some v1∧w'.cell? a2=some v2∧w'.cell? a3=some v3∧w'.cell? a4=some v4∧w'.cell? a5=some v5∧w'.cell? a6=some v6∧w'.cell? a7=some v7:=⟨h,h.cell c0,h.cell c1,h.cell c2,h.cell c3,h.cell c4,h.cell c5,h.cell c6,h.cell c7⟩
theorem RA {a t r:Nat} (hr:r=7 - a % 8) (h7:¬a % 8=7) (h:a+r=t+(7 - t % 8)):a+1+(7 - (a+1) % 8)=t+(7 - t % 8):=by omega
theorem I0 (w:World) (a b:Value) (t:TypeId) (n:Nat) (hn:n=w.heap.size):∀j u,[a,b][j]?=some u→(w.alloc (.cells #[a,b] t)).cell? ((⟨n,0,none⟩:Addr).add j)=some u:=by
 subst hn;exact cell_two_new w a b t
def BC (x:Int):Prop:=0≤x∧x<18446744073709551616
theorem Hi {a b:Int} (ha:BC a) (hb:BC b):Be a b=((a.toNat ^^^ b.toNat:Nat):Int)∧a.toNat ^^^ b.toNat<18446744073709551616:=by
 obtain ⟨A,rfl⟩:=jM ha.1;obtain ⟨B,rfl⟩:=jM hb.1;have h1:=ha.2;have h2:=hb.2;refine ⟨u64_xor_nat A B (by omega) (by omega),?_⟩;have:A ^^^ B<2 ^ 64:=Nat.xor_lt_two_pow (by omega) (by omega);simp only [Int.toNat_natCast];omega
theorem ML {a b:Int} (ha:BC a) (hb:BC b):BC (Be a b):=by
 obtain ⟨h1,h2⟩:=Hi ha hb;rw [h1];exact ⟨by omega,by omega⟩
theorem JT {a b:Int} (ha:BC a) (hb:BC b):Be a b=Be b a:=by
 rw [(Hi ha hb).1,(Hi hb ha).1,Nat.xor_comm]
theorem Ri {a b c:Int} (ha:BC a) (hb:BC b) (hc:BC c):Be (Be a b) c=Be a (Be b c):=by
 rw [(Hi (ML ha hb) hc).1,(Hi ha (ML hb hc)).1,(Hi ha hb).1,(Hi hb hc).1];simp only [Int.toNat_natCast];rw [Nat.xor_assoc]
theorem Ks {a b:Int} (ha:Af a) (hb:Af b):BC (wv a b):=Fy ha hb
theorem OA (t:ByteArray) (f:Nat):BC (BE t f):=by
 rw [GD];have b0:=Ct t f;have b1:=Ct t (f+1);have b2:=Ct t (f+2);have b3:=Ct t (f+3);have b4:=Ct t (f+4);have b5:=Ct t (f+5);have b6:=Ct t (f+6);have b7:=Ct t (f+7);unfold BC;omega
theorem TF (s:ByteArray) (a b i:Nat) (hb:b≤s.size) (hi:a+i<b):AQ (s.extract a b) i=AQ s (a+i):=by
 have h1:i<(s.extract a b).size:=by rw [ByteArray.size_extract];omega
 have h2:a+i<s.size:=by omega
 unfold AQ;rw [dif_pos h1,dif_pos h2,ByteArray.getElem_extract]
theorem MN (s:ByteArray) (a b:Nat) (hb:b≤s.size) (h8:a+8≤b):BE (s.extract a b) 0=BE s a:=by
 have e:∀j,j<8→AQ (s.extract a b) j=AQ s (a+j):=fun j hj=>TF s a b j hb (by omega)
 rw [GD,GD];simp only [Nat.zero_add];rw [e 7 (by omega),e 6 (by omega),e 5 (by omega),e 4 (by omega),e 3 (by omega),e 2 (by omega),e 1 (by omega),e 0 (by omega)];rfl
theorem Gn (s:ByteArray) (i:Nat) (h:i<s.size):AQ s i=(s[i].toNat:Int):=by
 unfold AQ;rw [dif_pos h]
theorem Kl (s t:ByteArray) (i:Nat) (h:i<s.size):AQ (s++t) i=AQ s i:=by
 have h1:i<(s++t).size:=by rw [jY];omega
 unfold AQ;rw [dif_pos h1,dif_pos h,ByteArray.getElem_append_left]
theorem Nt (s t:ByteArray) (i:Nat):AQ (s++t) (s.size+i)=AQ t i:=by
 unfold AQ;by_cases h:i<t.size
 ·have h1:s.size+i<(s++t).size:=by rw [jY];omega
  rw [dif_pos h1,dif_pos h,ByteArray.getElem_append_right (by omega)];simp only [Nat.add_sub_cancel_left]
 ·have h1:¬s.size+i<(s++t).size:=by rw [jY];omega
  rw [dif_neg h1,dif_neg h]
theorem TL (s:ByteArray) (hs:s.size=8):wv (((s[7].toNat * 256+s[6].toNat) * 256+s[5].toNat) * 256+s[4].toNat) (((s[3].toNat * 256+s[2].toNat) * 256+s[1].toNat) * 256+s[0].toNat)=BE s 0:=by
 rw [GD];simp only [Nat.zero_add];rw [Gn s 7 (by omega),Gn s 6 (by omega),Gn s 5 (by omega),Gn s 4 (by omega),Gn s 3 (by omega),Gn s 2 (by omega),Gn s 1 (by omega),Gn s 0 (by omega)];unfold wv;omega
theorem LD (s:ByteArray) (w:World) (hs:s.size=8):
  Calls Tryz.prog 206 #[.string s] w (Gx w (Gv (BE s 0))):=by
 have E:=jp (TL s hs);generalize BE s 0=V at *;have b0:=D4 s 0 (by omega);have b1:=D4 s 1 (by omega);have b2:=D4 s 2 (by omega);have b3:=D4 s 3 (by omega);have b4:=D4 s 4 (by omega);have b5:=D4 s 5 (by omega);have b6:=D4 s 6 (by omega);have b7:=D4 s 7 (by omega);go_enter Tryz.func206,Tryz.ntmps206;go_wp2;refine wp_loop_rounds 5 ?_;rw [rounds_succ];go_wp2;go_region;go_wp2;go_region;go_wp2;rw [rounds_succ];go_wp2;go_region;go_wp2;go_region;go_wp2;rw [rounds_succ];go_wp2;go_region;go_wp2;go_region;go_wp2;rw [rounds_succ];go_wp2;go_region;go_wp2;go_region;go_wp2;rw [rounds_succ];go_wp2;exact bodyPost_ret (v:= .agg #[.int .i64 (((s[7].toNat * 256+s[6].toNat) * 256+s[5].toNat) * 256+s[4].toNat),.int .i64 (((s[3].toNat * 256+s[2].toNat) * 256+s[1].toNat) * 256+s[0].toNat)]) (by simp [results,Tryz.results206,go_sem]) rfl ⟨_,_,rfl,by (repeat (first|exact jD _|assumption|refine jA ?_|refine jB ?_|refine jC ?_|refine Aa.step_set ?_ (by simp <;>omega) _|refine jE ?_ (by assumption))),⟨by omega,by omega⟩,⟨by omega,by omega⟩,E.out⟩
def I5 (s:ByteArray):Int:=wv (BQ (s.extract 0 4).data.toList) (BQ (s.extract 4 8).data.toList)
def CY (j:Nat):Int:=if j=0 then 8317987319222330741 else if j=1 then 7237128888997146477 else if j=2 then 7816392313619706465 else 8387220255154660723
def IE (wc:World) (bn:Nat):Prop:=∀j:Nat,j<4→∃s:ByteArray,s.size=8∧wc.cell? ⟨bn,j,none⟩=some (.string s)∧I5 s=CY j
theorem IE.later {a w:World} {bn:Nat} (h:IE a bn) (k:Aa a w):IE w bn:=fun j hj=>by
 obtain ⟨s,hs,hc,he⟩:=h j hj;exact ⟨s,hs,k.cell hc,he⟩
theorem W8 (w:World) (a b c d:ByteArray) (ha:a.size=8) (hb:b.size=8) (hc:c.size=8) (hd:d.size=8) (ea:I5 a=CY 0) (eb:I5 b=CY 1) (ec:I5 c=CY 2) (ed:I5 d=CY 3) (t:TypeId) (bn:Nat) (hbn:bn=w.heap.size):IE (w.alloc (.cells #[.string a,.string b,.string c,.string d] t)) bn:=by
 subst hbn;intro j hj
 match j,hj with
 |0,_=>exact ⟨a,ha,by simp,ea⟩
 |1,_=>exact ⟨b,hb,by simp,eb⟩
 |2,_=>exact ⟨c,hc,by simp,ec⟩
 |3,_=>exact ⟨d,hd,by simp,ed⟩
def Ci (K L:Int) (j:Nat):Int:=if j % 2=0 then Be (CY j) K else Be (CY j) L
theorem Kh (j:Nat):BC (CY j):=by
 unfold CY BC;split
 ·omega
 ·split
  ·omega
  ·split <;>omega
theorem WP {K L:Int} (hK:BC K) (hL:BC L):(⟨Ci K L 0,Ci K L 1,Ci K L 2,Ci K L 3⟩:S4)=Dt K L:=by
 have h0:Ci K L 0=Be K (CY 0):=by show Be (CY 0) K=_;exact JT (Kh 0) hK
 have h1:Ci K L 1=Be L (CY 1):=by show Be (CY 1) L=_;exact JT (Kh 1) hL
 have h2:Ci K L 2=Be K (CY 2):=by show Be (CY 2) K=_;exact JT (Kh 2) hK
 have h3:Ci K L 3=Be L (CY 3):=by show Be (CY 3) L=_;exact JT (Kh 3) hL
 rw [h0,h1,h2,h3];rfl
def Jt (w:World) (K L:Int) (vk vl:Value) (bn:Nat) (v:Value) (k:Nat) (xs:List (Int×Int)) (wr:World):Prop:=
 ∃S:World,AP w [(vk,K),(vl,L)] S∧IE S bn∧Aa S wr∧wr.ownsRow S.heap.size 181 2 v k (Fg xs)∧xs.map (fun p=>wv p.1 p.2)=(List.range k).map (Ci K L)
theorem Jt.step {w:World} {K L:Int} {vk vl:Value} {bn:Nat} {v v':Value} {k:Nat} {xs:List (Int×Int)} {wr W w':World} {p:Int×Int} {S:World} (h1:AP w [(vk,K),(vl,L)] S) (h2:IE S bn) (h3:Aa S wr) (h4:wr.ownsRow S.heap.size 181 2 v k (Fg xs)) (h5:xs.map (fun p=>wv p.1 p.2)=(List.range k).map (Ci K L))
  (hW:Aa wr W) (hg:W.grownBy w' v.ownBlock) (ho:w'.ownsRow S.heap.size 181 2 v' (k+1) (Fg xs++[.int .i64 p.1,.int .i64 p.2])) (hp:wv p.1 p.2=Ci K L k):Jt w K L vk vl bn v' (k+1) (xs++[p]) w':=by
 refine ⟨S,h1,h2,?_,by rw [O4];exact ho,?_⟩
 ·exact (h3.trans hW).grown hg fun g hg'=>(h4.lt g hg').1
 ·rw [List.map_append,List.range_succ,List.map_append,h5,List.map_cons,List.map_nil,hp];rfl
theorem Qq {w:World} {base:Nat} {v:Value} {xs:List (Int×Int)} {K L:Int} (h:w.ownsRow base 181 2 v 4 (Fg xs)) (hx:∀p∈xs,Af p.1∧Af p.2) (he:xs.map (fun p=>wv p.1 p.2)=(List.range 4).map (Ci K L)) (hK:BC K) (hL:BC L):
  ∃g cap,v= .slice (some ⟨g,0,none⟩) 4 cap∧base≤g∧Du w g (Dt K L):=by
 have hl:xs.length=4:=by have:=congrArg List.length he;simpa using this
 rcases h.2 with ⟨_,h2⟩|⟨g,cap,cur,hv,hg,hh,r1,r2,r3,r4⟩
 ·cases h2
 ·refine ⟨g,cap,hv,hg,?_⟩
  match xs,hl with
  |[p0,p1,p2,p3],_=>
   have hc:=h.cells (g:=g) (by rw [hv];rfl);rw [←WP hK hL];have e4:(List.range 4).map (Ci K L)=[Ci K L 0,Ci K L 1,Ci K L 2,Ci K L 3]:=rfl;rw [e4] at he;simp only [List.map_cons,List.map_nil,List.cons.injEq,and_true] at he;exact ⟨p0.1,p0.2,p1.1,p1.2,p2.1,p2.2,p3.1,p3.2,⟨(hx p0 (by simp)).1,(hx p0 (by simp)).2,(hx p1 (by simp)).1,(hx p1 (by simp)).2,(hx p2 (by simp)).1,(hx p2 (by simp)).2,(hx p3 (by simp)).1,(hx p3 (by simp)).2⟩,⟨hc 0 _ rfl,hc 1 _ rfl,hc 2 _ rfl,hc 3 _ rfl,hc 4 _ rfl,hc 5 _ rfl,hc 6 _ rfl,hc 7 _ rfl⟩,he.1,he.2.1,he.2.2.1,he.2.2.2⟩
def Gm (t s:ByteArray):Prop:=t.size≤s.size∧(∀i,i<t.size→AQ s i=AQ t i)∧∀i,t.size≤i→AQ s i=0
theorem Gm.refl (t:ByteArray):Gm t t:=⟨jH _,fun _ _=>rfl,fun i hi=>I4 t i (by omega)⟩
theorem Gm.more {t s:ByteArray} (h:Gm t s):Gm t (s++⟨#[0]⟩):=by
 obtain ⟨h1,h2,h3⟩:=h;refine ⟨by rw [jY];omega,fun i hi=>by rw [Kl _ _ _ (by omega)];exact h2 i hi,fun i hi=>?_⟩;by_cases hs:i<s.size
 ·rw [Kl _ _ _ hs];exact h3 i hi
 ·obtain ⟨j,rfl⟩:∃j,i=s.size+j:=⟨i - s.size,by omega⟩;rw [Nt];by_cases hj:j=0
  ·subst hj;rfl
  ·exact I4 _ _ (by show ¬j<1;omega)
theorem Gm.done {t s:ByteArray} (h:Gm t s) (hz:s.size=8 * (t.size / 8)+7):Gz t (s++BH ((t.size:Int) % 256)):=by
 obtain ⟨h1,h2,h3⟩:=h;refine ⟨fun i hi=>by rw [Kl _ _ _ (by omega)];exact h2 i hi,fun i hi hi2=>by rw [Kl _ _ _ (by omega)];exact h3 i hi,?_,by rw [jY,EU];omega⟩;rw [←hz,show s.size=s.size+0 from rfl,Nt,Gn _ 0 (by rw [EU];omega)];have:(BH ((t.size:Int) % 256))[0]'(by rw [EU];omega)=UInt8.ofNat ((t.size:Int) % 256).toNat:=rfl;rw [this,UInt8.toNat_ofNat'];omega
theorem XQ {t y:ByteArray} (h:Gz t y) (s:S4):∀n,n≤t.size / 8→CH y s n=CH t s n:=by
 intro n
 induction n with
 |zero=>intro _;rfl
 |succ n ih=>
  intro hn;rw [CH,CH,ih (by omega),h.word n (by omega)]
theorem Wf {t y:ByteArray} (h:Gz t y) (s:S4):CH y s (t.size / 8+1)=(CH t s (t.size / 8)).take (bits .or .u64 (BE t (8 * (t.size / 8))) ((t.size:Int) * 72057594037927936 % 18446744073709551616)):=by
 rw [CH,XQ h s _ (jH _),h.last]
end Go.Proofs.YtpapdkhjdelfcabGreat
