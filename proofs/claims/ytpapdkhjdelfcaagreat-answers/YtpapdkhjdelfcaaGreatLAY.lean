import Derived.Test.YtpapdkhjdelfcaaGreatLAX
namespace Go.Proofs.YtpapdkhjdelfcaaGreat
open Go.RowKit
set_option maxRecDepth 100000
set_option maxHeartbeats 4000000
def Du (w:World) (b:Nat) (s:S4):Prop:=∃x0 f g i k l m n:Int,(Af x0/\Af f/\Af g/\Af i/\Af k/\Af l/\Af m/\Af n)/\
 (w.cell? ⟨b, 0, none⟩ = some (.int .i64 x0) /\ w.cell? ⟨b, 1, none⟩ = some (.int .i64 f) /\ w.cell? ⟨b, 2, none⟩ = some (.int .i64 g) /\ w.cell? ⟨b, 3, none⟩ = some (.int .i64 i) /\
 w.cell? ⟨b, 4, none⟩ = some (.int .i64 k) /\ w.cell? ⟨b, 5, none⟩ = some (.int .i64 l) /\ w.cell? ⟨b, 6, none⟩ = some (.int .i64 m) /\ w.cell? ⟨b, 7, none⟩ = some (.int .i64 n)) /\
 wv x0 f=s.a/\wv g i=s.b/\wv k l=s.c/\wv m n=s.d
theorem Du.later {a w:World} (h:Aa a w) {b:Nat} {s:S4} (k:Du a b s):Du w b s:=by
 obtain ⟨x0,c,d,f,g,i,l,m,n,⟨o,p,q,r,t,u,v,x⟩,y⟩:=k;exact ⟨x0,c,d,f,g,i,l,m,n,⟨h.cell o,h.cell p,h.cell q,h.cell r,h.cell t,h.cell u,h.cell v,h.cell x⟩,y⟩
def Sy (w:World) (s:S4) (e:Ending) (w':World):Prop:=∃b a:Nat,e= .returned (.slice (some ⟨b,0,none⟩) 4 a)/\Aa w w'/\Du w' b s
def S4.rounds (s:S4):Nat->S4
 |0=>s
 |n+1=>S4.rounds s.round n
def AX (base:Nat) (w:World) (v:Value) (X:Int):Prop:=∃(p:Nat) (x y:Int),v= .pointer (some ⟨p,0,none⟩)/\base<=p/\w.cell? ⟨p,0,none⟩=some (.int .i64 x)/\w.cell? ⟨p,1,none⟩=some (.int .i64 y)/\w.frozen? ⟨p,0,none⟩=false/\w.frozen? ⟨p,1,none⟩=false/\Af x/\Af y/\wv x y=X
theorem AX.later {B:Nat} {a w:World} {v:Value} {X:Int} (k:AX B a v X) (h:Aa a w):AX B w v X:=by
 obtain ⟨p,x,y,rfl,d,b,c,f,g,r⟩:=k;exact ⟨p,x,y,rfl,d,h.cell b,h.cell c,h.frozen b f,h.frozen c g,r⟩
theorem AX.new {B:Nat} {w:World} {x y X:Int} (a:B<=w.heap.size) (b:Af x) (c:Af y) (d:wv x y=X) (t:TypeId):AX B (w.alloc (.cells #[.int .i64 x,.int .i64 y] t)) (.pointer (some ⟨w.heap.size,0,none⟩)) X:=
 ⟨_,x,y,rfl,a,js,js,js,js,b,c,d⟩
theorem AX.stored {B:Nat} {w:World} {p:Nat} {u0 u1:Value} {X:Int} (a:B<=p) (b:w.cell? ⟨p,0,none⟩=some u0) (c:w.cell? ⟨p,1,none⟩=some u1) (d:w.frozen? ⟨p,0,none⟩=false) (f:w.frozen? ⟨p,1,none⟩=false) {x y:Int} (g:Af x) (i:Af y) (k:wv x y=X):
  AX B ((w.setCell ⟨p,0,none⟩ (.int .i64 x)).setCell ⟨p,1,none⟩ (.int .i64 y)) (.pointer (some ⟨p,0,none⟩)) X:=by
 refine ⟨p,x,y,rfl,a,?_,?_,by rw [Ag,Ag];exact d,by rw [Ag,Ag];exact f,g,i,k⟩
 .rw [Ad js];exact Bc b
 .exact Bc (v:=u1) (by rw [Ad js];exact c)
def AP (w:World) (a:List (Value×Int)) (wc:World):Prop:=Aa w wc/\(∀v∈a,AX w.heap.size wc v.1 v.2)/\(a.map (·.1)).Nodup
theorem AP.nil (w:World):AP w [] w:=⟨jD _,fun v a=>by simp at a,js⟩
theorem AP.later {w a:World} {b:List (Value×Int)} (h:AP w b a) {w':World} (k:Aa a w'):AP w b w':=⟨h.1.trans k,fun v c=>(h.2.1 v c).later k,h.2.2⟩
theorem AP.more {w a w':World} {c:List (Value×Int)} {p:Nat} {X:Int} (h:AP w c a) (k:Aa a w') (f:AX w.heap.size w' (.pointer (some ⟨p,0,none⟩)) X) (n:a.heap.size<=p):AP w (c++[(.pointer (some ⟨p,0,none⟩),X)]) w':=by
 refine ⟨h.1.trans k,fun v b=>?_,?_⟩
 .rcases jT.1 b with b|b
  .exact (h.2.1 v b).later k
  .rw [jP.1 b];exact f
 .rw [List.map_append,List.nodup_append];refine ⟨h.2.2,js,fun u g z d=>?_⟩;obtain ⟨v,b,rfl⟩:=List.mem_map.1 g;obtain ⟨q,x,y,e, -,i, -⟩:=h.2.1 v b;have l:=jF i;simp only [List.map_cons,List.map_nil,jP] at d;subst d;rw [e];intro m;simp only [Value.pointer.injEq,Option.some.injEq,Addr.mk.injEq,and_true] at m;simp only at l;omega
theorem AP.put {w a u:World} {d:List (Value×Int)} {p:Nat} {X n:Int} (h:AP w d a) (k:Aa a u) (i:Nat) (o:d[i]?=some (.pointer (some ⟨p,0,none⟩),X)) {x y:Int} (C:Af x) (D:Af y) (E:wv x y=n):
  AP w (d.set i (.pointer (some ⟨p,0,none⟩),n)) ((u.setCell ⟨p,0,none⟩ (.int .i64 x)).setCell ⟨p,1,none⟩ (.int .i64 y)):=by
 have f:=(List.getElem?_eq_some_iff.1 o).1;have l:=(List.getElem?_eq_some_iff.1 o).2;obtain ⟨q,x0,U,e,s,F,G,H,I, -⟩:=(h.2.1 _ (List.mem_of_getElem? o)).later k;simp only [Value.pointer.injEq,Option.some.injEq,Addr.mk.injEq,and_true] at e;subst e
 have m:(d.set i (.pointer (some ⟨p,0,none⟩),n)).map (·.1)=d.map (·.1):=by
  apply List.ext_getElem
  .simp
  .intro j V W;simp only [List.getElem_map,List.getElem_set];split
   .rename_i e;subst e;simp [l]
   .rfl
 refine ⟨((h.1.trans k).step_set (p:=⟨p,0,none⟩) s _).step_set (p:=⟨p,1,none⟩) s _,fun v J=>?_,by rw [m];exact h.2.2⟩;obtain ⟨j,K,rfl⟩:=List.mem_iff_getElem.1 J;have b:j<d.length:=by simpa using K
 by_cases g:i=j
 .subst g;simp only [List.getElem_set_self];exact AX.stored s F G H I C D E
 .simp only [List.getElem_set_ne g];obtain ⟨r,L,M,z,N,O,P,Q,R,S⟩:=(h.2.1 _ (jJ b)).later k
  have c:p≠r:=fun T=>by
   have A:=List.pairwise_iff_getElem.1 h.2.2
   have B:(d.map (·.1))[i]'(by simpa using f)=(d.map (·.1))[j]'(by simpa using b):=by
    simp only [List.getElem_map,l,z,T]
   rcases Nat.lt_or_gt_of_ne g with t|t
   .exact A i j (by simpa using f) (by simpa using b) t B
   .exact A j i (by simpa using b) (by simpa using f) t B.symm
  refine ⟨r,L,M,z,N,?_,?_,by rw [Ag,Ag];exact Q,by rw [Ag,Ag];exact R,S⟩
  .rw [Ad (Or.inl c),Ad (Or.inl c)];exact O
  .rw [Ad (Or.inl c),Ad (Or.inl c)];exact P
theorem Om (b cap:Nat) (n:Nat) (s:S4) (w:World) (ba:n<=4) (h4:Du w b s):
  Calls Tryz.prog 168 #[.slice (some ⟨b,0,none⟩) 4 cap,.int .i64 n] w (Sy w (s.rounds n)):=by
 obtain ⟨R,hR⟩:∃R,R=s.rounds n:=⟨_,rfl⟩;rw [<-hR];have HR:=jp hR;clear hR;go_enter Tryz.func168,Tryz.ntmps168;go_wp2;go_loopg [0,1] n (fun g v i wr=>∃(b' ae q:Nat) (t:S4),v= .slice (some ⟨b',0,none⟩) 4 ae/\i= .int .i64 q/\q<=4/\g=q/\Du wr b' t/\Aa w wr/\R=t.rounds q)
 case atStart=>exact ⟨b,cap,n,s,rfl,rfl,ba,rfl,h4,jD _,HR.out⟩
 case round=>
  obtain ⟨b',ae,q,t,rfl,rfl,Z,hg,am,hb,an⟩:=hrel;clear h4;have ak:=jp an;clear an HR;by_cases bj:0<q
  .have HB:=jp hb;obtain ⟨q,rfl⟩:∃q',q=q'+1:=⟨q - 1,by omega⟩;obtain ⟨x0,x1,x2,x3,x4,x5,x6,x7,⟨g0,g1,g2,g3,g4,g5,g6,g7⟩,⟨o0,o1,o2,o3,o4,o5,o6,o7⟩,e0,e1,e2,e3⟩:=am;obtain ⟨ta,tb,tc,td⟩:=t;simp only at e0 e1 e2 e3;have d:AP wr [] wr:=AP.nil wr;clear hb;obtain ⟨a1,E0⟩:∃X,X=G4 ta tb:=⟨_,rfl⟩;have H0:=jp E0;clear E0;obtain ⟨b0,E1⟩:∃X,X=Ca tb 13:=⟨_,rfl⟩;have H1:=jp E1;clear E1;obtain ⟨Y,E2⟩:∃X,X=Be b0 a1:=⟨_,rfl⟩;have H2:=jp E2;clear E2;obtain ⟨a2,E3⟩:∃X,X=Ca a1 32:=⟨_,rfl⟩;have H3:=jp E3;clear E3;obtain ⟨c1,E4⟩:∃X,X=G4 tc td:=⟨_,rfl⟩;have H4:=jp E4;clear E4;obtain ⟨d0,E5⟩:∃X,X=Ca td 16:=⟨_,rfl⟩;have H5:=jp E5;clear E5;obtain ⟨d1,E6⟩:∃X,X=Be d0 c1:=⟨_,rfl⟩;have H6:=jp E6;clear E6;obtain ⟨a3,E7⟩:∃X,X=G4 a2 d1:=⟨_,rfl⟩;have H7:=jp E7;clear E7;obtain ⟨d2,E8⟩:∃X,X=Ca d1 21:=⟨_,rfl⟩;have H8:=jp E8;clear E8;obtain ⟨d3,E9⟩:∃X,X=Be d2 a3:=⟨_,rfl⟩;have H9:=jp E9;clear E9;obtain ⟨c2,ao⟩:∃X,X=G4 c1 Y:=⟨_,rfl⟩;have ap:=jp ao;clear ao;obtain ⟨b2,aq⟩:∃X,X=Ca Y 17:=⟨_,rfl⟩;have ar:=jp aq;clear aq;obtain ⟨b3,au⟩:∃X,X=Be b2 c2:=⟨_,rfl⟩;have av:=jp au;clear au;obtain ⟨c3,aw⟩:∃X,X=Ca c2 32:=⟨_,rfl⟩;have ax:=jp aw;clear aw
   have ay:Hid (R=S4.rounds ⟨a3,b3,c3,d3⟩ q):=by
    show R=_;rw [ak.out];show S4.rounds (S4.round ⟨ta,tb,tc,td⟩) q=_;congr 1;rw [ax.out,av.out,ar.out,ap.out,H9.out,H8.out,H7.out,H6.out,H5.out,H4.out,H3.out,H2.out,H1.out,H0.out];rfl
   clear ak;have bk:decide (((q+1:Nat):Int)>0)=true:=jL (by omega);go_wp2_with fail;go_cut [5] (fun u5 wc=>AP wr [(u5,a1)] wc)
   case first=>
    have c0:=d.1.cell o0;have c1:=d.1.cell o1;have c2:=d.1.cell o2;have c3:=d.1.cell o3;go_region_held3 (fun w'=>Aa wr w'/\w'.cell? ⟨b',0,none⟩=some (.int .i64 x0)/\w'.cell? ⟨b',1,none⟩=some (.int .i64 x1)/\w'.cell? ⟨b',2,none⟩=some (.int .i64 x2)/\w'.cell? ⟨b',3,none⟩=some (.int .i64 x3)) ((refine If ?_ c0 c1 c2 c3;(repeat (first|exact jD _|assumption|refine jA ?_|refine jB ?_|refine jC ?_|refine Aa.step_set ?_ (by simp <;>omega) _|refine jE ?_ (by assumption))))) ((go_at_call 191;refine (Iw _ _ _ _ _ g0 g1 g2 g3).mono ?_;rintro e x ⟨f,k,rfl,a,o,r,l⟩;obtain ⟨Z,af⟩:=a.cells))
    all_goals
     have u:Hid (wv f k=a1):=by
      show wv f k=_;have c:=show wv f k=_ from l
      rw [e0,e1] at c;rw [H0.out];exact c
     clear l;go_wp2_with fail;go_meet
     case rel=>
      have m:Aa wr x:=by (repeat (first|exact jD _|assumption|refine jA ?_|refine jB ?_|refine jC ?_|refine Aa.step_set ?_ (by simp <;>omega) _|refine jE ?_ (by assumption)))
      have hw:=(d.1.trans m).size;have al:=d.1.size
      first
       |exact d.more (m.step_alloc _) (AX.new hw o r u.out _) m.size
       |exact d.more ((m.step_set (p:=⟨wr.heap.size,0,none⟩) (jH _) _).step_set (p:=⟨wr.heap.size,1,none⟩) (jH _) _) (AX.stored al ((Z _ _ (by simp)).trans (by simp;rfl)) ((Z _ _ (by simp)).trans (by simp;rfl)) ((af _ _ (by simp)).trans (by simp)) ((af _ _ (by simp)).trans (by simp)) o r u.out) (jH _)
   case rest=>
    replace d:=hcut;clear hcut;go_upto_region 4 with fail
    go_cut [6] (fun u6 wc=>AP wr [(u5,a1),(u6,b0)] wc)
    case first=>
     have c2:=d.1.cell o2;have c3:=d.1.cell o3;go_wp2_with fail;refine (Ih _ _ _ _ g2 g3 (by decide)).mono ?_;rintro e x ⟨f,k,rfl,a,o,r,l⟩
     have u:Hid (wv f k=b0):=by
      show wv f k=_;have c:=show wv f k=_ from l
      rw [e1] at c;rw [H1.out];exact c
     clear l;go_wp2_with fail;go_meet
     case rel=>
      have m:Aa wc x:=by (repeat (first|exact jD _|assumption|refine jA ?_|refine jB ?_|refine jC ?_|refine Aa.step_set ?_ (by simp <;>omega) _|refine jE ?_ (by assumption)))
      exact d.more (m.step_alloc _) (AX.new (d.1.trans m).size o r u.out _) m.size
    case rest=>
     replace d:=hcut;clear hcut;go_upto_region 5 with fail
     go_cut [] (fun wc=>AP wr [(u5,a1),(u6,Y)] wc)
     case first=>
      obtain ⟨p6,X6,Y6,rfl,ag,y,z,T,U,C,D,E⟩:=d.2.1 (u6,b0) (by simp);obtain ⟨p5,X5,Y5,rfl,ah,O,P,aa,ab,F,G,H⟩:=d.2.1 (u5,a1) (by simp);go_wp2_with fail;refine (Fb _ _ _ _ _ C D F G).mono ?_;rintro e x ⟨f,k,rfl,a,o,r,l⟩
      have u:Hid (wv f k=Y):=by
       show wv f k=_;have c:=show wv f k=_ from l
       rw [E,H] at c;rw [H2.out];exact c
      clear l;have az:=a.cell y;have a0:=a.cell z;have a4:=a.frozen y T;have a5:=a.frozen z U;go_wp2_with fail;go_meet
      case rel=>
       have m:Aa wc x:=by (repeat (first|exact jD _|assumption|refine jA ?_|refine jB ?_|refine jC ?_|refine Aa.step_set ?_ (by simp <;>omega) _|refine jE ?_ (by assumption)))
       exact d.put m 1 rfl o r u.out
     case rest=>
      replace d:=hcut;clear hcut;go_upto_region 6 with fail
      go_cut [] (fun wc=>AP wr [(u5,a2),(u6,Y)] wc)
      case first=>
       obtain ⟨p5,X5,Y5,rfl,ah,O,P,aa,ab,F,G,H⟩:=d.2.1 (u5,a1) (by simp);go_wp2_with fail;refine (Ih _ _ _ _ F G (by decide)).mono ?_;rintro e x ⟨f,k,rfl,a,o,r,l⟩
       have u:Hid (wv f k=a2):=by
        show wv f k=_;have c:=show wv f k=_ from l
        rw [H] at c;rw [H3.out];exact c
       clear l;have bb:=a.cell O;have bc:=a.cell P;have bd:=a.frozen O aa;have be:=a.frozen P ab;go_wp2_with fail;go_meet
       case rel=>
        have m:Aa wc x:=by (repeat (first|exact jD _|assumption|refine jA ?_|refine jB ?_|refine jC ?_|refine Aa.step_set ?_ (by simp <;>omega) _|refine jE ?_ (by assumption)))
        exact d.put m 0 rfl o r u.out
      case rest=>
       replace d:=hcut;clear hcut;go_upto_region 7 with fail
       go_cut [7] (fun u7 wc=>AP wr [(u5,a2),(u6,Y),(u7,c1)] wc)
       case first=>
        have c4:=d.1.cell o4;have c5:=d.1.cell o5;have c6:=d.1.cell o6;have c7:=d.1.cell o7;go_region_held3 (fun w'=>Aa wc w'/\w'.cell? ⟨b',4,none⟩=some (.int .i64 x4)/\w'.cell? ⟨b',5,none⟩=some (.int .i64 x5)/\w'.cell? ⟨b',6,none⟩=some (.int .i64 x6)/\w'.cell? ⟨b',7,none⟩=some (.int .i64 x7)) ((refine If ?_ c4 c5 c6 c7;(repeat (first|exact jD _|assumption|refine jA ?_|refine jB ?_|refine jC ?_|refine Aa.step_set ?_ (by simp <;>omega) _|refine jE ?_ (by assumption))))) ((go_at_call 191;refine (Iw _ _ _ _ _ g4 g5 g6 g7).mono ?_;rintro e x ⟨f,k,rfl,a,o,r,l⟩;obtain ⟨Z,af⟩:=a.cells))
        all_goals
         have u:Hid (wv f k=c1):=by
          show wv f k=_;have c:=show wv f k=_ from l
          rw [e2,e3] at c;rw [H4.out];exact c
         clear l;go_wp2_with fail;go_meet
         case rel=>
          have m:Aa wc x:=by (repeat (first|exact jD _|assumption|refine jA ?_|refine jB ?_|refine jC ?_|refine Aa.step_set ?_ (by simp <;>omega) _|refine jE ?_ (by assumption)))
          have hw:=(d.1.trans m).size;have al:=d.1.size
          first
           |exact d.more (m.step_alloc _) (AX.new hw o r u.out _) m.size
           |exact d.more ((m.step_set (p:=⟨wc.heap.size,0,none⟩) (jH _) _).step_set (p:=⟨wc.heap.size,1,none⟩) (jH _) _) (AX.stored al ((Z _ _ (by simp)).trans (by simp;rfl)) ((Z _ _ (by simp)).trans (by simp;rfl)) ((af _ _ (by simp)).trans (by simp)) ((af _ _ (by simp)).trans (by simp)) o r u.out) (jH _)
       case rest=>
        replace d:=hcut;clear hcut;go_upto_region 8 with fail
        go_cut [8] (fun u8 wc=>AP wr [(u5,a2),(u6,Y),(u7,c1),(u8,d0)] wc)
        case first=>
         have c6:=d.1.cell o6;have c7:=d.1.cell o7;go_wp2_with fail;refine (Ih _ _ _ _ g6 g7 (by decide)).mono ?_;rintro e x ⟨f,k,rfl,a,o,r,l⟩
         have u:Hid (wv f k=d0):=by
          show wv f k=_;have c:=show wv f k=_ from l
          rw [e3] at c;rw [H5.out];exact c
         clear l;go_wp2_with fail;go_meet
         case rel=>
          have m:Aa wc x:=by (repeat (first|exact jD _|assumption|refine jA ?_|refine jB ?_|refine jC ?_|refine Aa.step_set ?_ (by simp <;>omega) _|refine jE ?_ (by assumption)))
          exact d.more (m.step_alloc _) (AX.new (d.1.trans m).size o r u.out _) m.size
        case rest=>
         replace d:=hcut;clear hcut;go_upto_region 9 with fail
         go_cut [] (fun wc=>AP wr [(u5,a2),(u6,Y),(u7,c1),(u8,d1)] wc)
         case first=>
          obtain ⟨p8,X8,Y8,rfl,ai,A,B,V,W,I,J,K⟩:=d.2.1 (u8,d0) (by simp);obtain ⟨p7,X7,Y7,rfl,aj,Q,S,ac,ad,L,M,N⟩:=d.2.1 (u7,c1) (by simp);go_wp2_with fail;refine (Fb _ _ _ _ _ I J L M).mono ?_;rintro e x ⟨f,k,rfl,a,o,r,l⟩
          have u:Hid (wv f k=d1):=by
           show wv f k=_;have c:=show wv f k=_ from l
           rw [K,N] at c;rw [H6.out];exact c
          clear l;have a6:=a.cell A;have a7:=a.cell B;have a8:=a.frozen A V;have a9:=a.frozen B W;go_wp2_with fail;go_meet
          case rel=>
           have m:Aa wc x:=by (repeat (first|exact jD _|assumption|refine jA ?_|refine jB ?_|refine jC ?_|refine Aa.step_set ?_ (by simp <;>omega) _|refine jE ?_ (by assumption)))
           exact d.put m 3 rfl o r u.out
         case rest=>
          replace d:=hcut;clear hcut;go_upto_region 10 with fail
          go_cut [] (fun wc=>AP wr [(u5,a3),(u6,Y),(u7,c1),(u8,d1)] wc)
          case first=>
           obtain ⟨p5,X5,Y5,rfl,ah,O,P,aa,ab,F,G,H⟩:=d.2.1 (u5,a2) (by simp);obtain ⟨p8,X8,Y8,rfl,ai,A,B,V,W,I,J,K⟩:=d.2.1 (u8,d1) (by simp);go_wp2_with fail;refine (Iw _ _ _ _ _ F G I J).mono ?_;rintro e x ⟨f,k,rfl,a,o,r,l⟩
           have u:Hid (wv f k=a3):=by
            show wv f k=_;have c:=show wv f k=_ from l
            rw [H,K] at c;rw [H7.out];exact c
           clear l;have bb:=a.cell O;have bc:=a.cell P;have bd:=a.frozen O aa;have be:=a.frozen P ab;go_wp2_with fail;go_meet
           case rel=>
            have m:Aa wc x:=by (repeat (first|exact jD _|assumption|refine jA ?_|refine jB ?_|refine jC ?_|refine Aa.step_set ?_ (by simp <;>omega) _|refine jE ?_ (by assumption)))
            exact d.put m 0 rfl o r u.out
          case rest=>
           replace d:=hcut;clear hcut;go_upto_region 11 with fail
           go_cut [] (fun wc=>AP wr [(u5,a3),(u6,Y),(u7,c1),(u8,d2)] wc)
           case first=>
            obtain ⟨p8,X8,Y8,rfl,ai,A,B,V,W,I,J,K⟩:=d.2.1 (u8,d1) (by simp);go_wp2_with fail;refine (Ih _ _ _ _ I J (by decide)).mono ?_;rintro e x ⟨f,k,rfl,a,o,r,l⟩
            have u:Hid (wv f k=d2):=by
             show wv f k=_;have c:=show wv f k=_ from l
             rw [K] at c;rw [H8.out];exact c
            clear l;have a6:=a.cell A;have a7:=a.cell B;have a8:=a.frozen A V;have a9:=a.frozen B W;go_wp2_with fail;go_meet
            case rel=>
             have m:Aa wc x:=by (repeat (first|exact jD _|assumption|refine jA ?_|refine jB ?_|refine jC ?_|refine Aa.step_set ?_ (by simp <;>omega) _|refine jE ?_ (by assumption)))
             exact d.put m 3 rfl o r u.out
           case rest=>
            replace d:=hcut;clear hcut;go_upto_region 12 with fail
            go_cut [] (fun wc=>AP wr [(u5,a3),(u6,Y),(u7,c1),(u8,d3)] wc)
            case first=>
             obtain ⟨p8,X8,Y8,rfl,ai,A,B,V,W,I,J,K⟩:=d.2.1 (u8,d2) (by simp);obtain ⟨p5,X5,Y5,rfl,ah,O,P,aa,ab,F,G,H⟩:=d.2.1 (u5,a3) (by simp);go_wp2_with fail;refine (Fb _ _ _ _ _ I J F G).mono ?_;rintro e x ⟨f,k,rfl,a,o,r,l⟩
             have u:Hid (wv f k=d3):=by
              show wv f k=_;have c:=show wv f k=_ from l
              rw [K,H] at c;rw [H9.out];exact c
             clear l;have a6:=a.cell A;have a7:=a.cell B;have a8:=a.frozen A V;have a9:=a.frozen B W;go_wp2_with fail;go_meet
             case rel=>
              have m:Aa wc x:=by (repeat (first|exact jD _|assumption|refine jA ?_|refine jB ?_|refine jC ?_|refine Aa.step_set ?_ (by simp <;>omega) _|refine jE ?_ (by assumption)))
              exact d.put m 3 rfl o r u.out
            case rest=>
             replace d:=hcut;clear hcut;go_upto_region 13 with fail
             go_cut [] (fun wc=>AP wr [(u5,a3),(u6,Y),(u7,c2),(u8,d3)] wc)
             case first=>
              obtain ⟨p7,X7,Y7,rfl,aj,Q,S,ac,ad,L,M,N⟩:=d.2.1 (u7,c1) (by simp);obtain ⟨p6,X6,Y6,rfl,ag,y,z,T,U,C,D,E⟩:=d.2.1 (u6,Y) (by simp);go_wp2_with fail;refine (Iw _ _ _ _ _ L M C D).mono ?_;rintro e x ⟨f,k,rfl,a,o,r,l⟩
              have u:Hid (wv f k=c2):=by
               show wv f k=_;have c:=show wv f k=_ from l
               rw [N,E] at c;rw [ap.out];exact c
              clear l;have bf:=a.cell Q;have bg:=a.cell S;have bh:=a.frozen Q ac;have bi:=a.frozen S ad;go_wp2_with fail;go_meet
              case rel=>
               have m:Aa wc x:=by (repeat (first|exact jD _|assumption|refine jA ?_|refine jB ?_|refine jC ?_|refine Aa.step_set ?_ (by simp <;>omega) _|refine jE ?_ (by assumption)))
               exact d.put m 2 rfl o r u.out
             case rest=>
              replace d:=hcut;clear hcut;go_upto_region 14 with fail
              go_cut [] (fun wc=>AP wr [(u5,a3),(u6,b2),(u7,c2),(u8,d3)] wc)
              case first=>
               obtain ⟨p6,X6,Y6,rfl,ag,y,z,T,U,C,D,E⟩:=d.2.1 (u6,Y) (by simp);go_wp2_with fail;refine (Ih _ _ _ _ C D (by decide)).mono ?_;rintro e x ⟨f,k,rfl,a,o,r,l⟩
               have u:Hid (wv f k=b2):=by
                show wv f k=_;have c:=show wv f k=_ from l
                rw [E] at c;rw [ar.out];exact c
               clear l;have az:=a.cell y;have a0:=a.cell z;have a4:=a.frozen y T;have a5:=a.frozen z U;go_wp2_with fail;go_meet
               case rel=>
                have m:Aa wc x:=by (repeat (first|exact jD _|assumption|refine jA ?_|refine jB ?_|refine jC ?_|refine Aa.step_set ?_ (by simp <;>omega) _|refine jE ?_ (by assumption)))
                exact d.put m 1 rfl o r u.out
              case rest=>
               replace d:=hcut;clear hcut;go_upto_region 15 with fail
               go_cut [] (fun wc=>AP wr [(u5,a3),(u6,b3),(u7,c2),(u8,d3)] wc)
               case first=>
                obtain ⟨p6,X6,Y6,rfl,ag,y,z,T,U,C,D,E⟩:=d.2.1 (u6,b2) (by simp);obtain ⟨p7,X7,Y7,rfl,aj,Q,S,ac,ad,L,M,N⟩:=d.2.1 (u7,c2) (by simp);go_wp2_with fail;refine (Fb _ _ _ _ _ C D L M).mono ?_;rintro e x ⟨f,k,rfl,a,o,r,l⟩
                have u:Hid (wv f k=b3):=by
                 show wv f k=_;have c:=show wv f k=_ from l
                 rw [E,N] at c;rw [av.out];exact c
                clear l;have az:=a.cell y;have a0:=a.cell z;have a4:=a.frozen y T;have a5:=a.frozen z U;go_wp2_with fail;go_meet
                case rel=>
                 have m:Aa wc x:=by (repeat (first|exact jD _|assumption|refine jA ?_|refine jB ?_|refine jC ?_|refine Aa.step_set ?_ (by simp <;>omega) _|refine jE ?_ (by assumption)))
                 exact d.put m 1 rfl o r u.out
               case rest=>
                replace d:=hcut;clear hcut;go_upto_region 16 with fail
                go_cut [] (fun wc=>AP wr [(u5,a3),(u6,b3),(u7,c3),(u8,d3)] wc)
                case first=>
                 obtain ⟨p7,X7,Y7,rfl,aj,Q,S,ac,ad,L,M,N⟩:=d.2.1 (u7,c2) (by simp);go_wp2_with fail;refine (Ih _ _ _ _ L M (by decide)).mono ?_;rintro e x ⟨f,k,rfl,a,o,r,l⟩
                 have u:Hid (wv f k=c3):=by
                  show wv f k=_;have c:=show wv f k=_ from l
                  rw [N] at c;rw [ax.out];exact c
                 clear l;have bf:=a.cell Q;have bg:=a.cell S;have bh:=a.frozen Q ac;have bi:=a.frozen S ad;go_wp2_with fail;go_meet
                 case rel=>
                  have m:Aa wc x:=by (repeat (first|exact jD _|assumption|refine jA ?_|refine jB ?_|refine jC ?_|refine Aa.step_set ?_ (by simp <;>omega) _|refine jE ?_ (by assumption)))
                  exact d.put m 2 rfl o r u.out
                case rest=>
                 replace d:=hcut;clear hcut;obtain ⟨p5,X5,Y5,rfl,ah,O,P,aa,ab,F,G,H⟩:=d.2.1 (u5,a3) (by simp);obtain ⟨p6,X6,Y6,rfl,ag,y,z,T,U,C,D,E⟩:=d.2.1 (u6,b3) (by simp);obtain ⟨p7,X7,Y7,rfl,aj,Q,S,ac,ad,L,M,N⟩:=d.2.1 (u7,c3) (by simp);obtain ⟨p8,X8,Y8,rfl,ai,A,B,V,W,I,J,K⟩:=d.2.1 (u8,d3) (by simp);go_wp2_with fail;go_roundg q
                 case measure=>omega
                 case rel=>exact ⟨wc.heap.size,4,q,⟨a3,b3,c3,d3⟩,rfl,by go_num,by omega,rfl,⟨X5,Y5,X6,Y6,X7,Y7,X8,Y8,⟨F,G,C,D,L,M,I,J⟩,⟨by simp,by simp,by simp,by simp,by simp,by simp,by simp,by simp⟩,H,E,N,K⟩,HB.out.trans (d.1.step_alloc _),ay.out⟩
  .obtain rfl:q=0:=by omega
   go_wp2;go_ret;exact ⟨b',ae,rfl,hb,by rw [ak.out];exact am⟩
theorem D4 (s:ByteArray) (k:Nat) (h:k<s.size):0<=((s[k]'h).toNat:Int)/\((s[k]'h).toNat:Int)<=255:=⟨jo,Km _⟩
theorem I6 {w w':World} {base:Nat} {e:TypeId} {a:Nat} {v:Value} {n:Nat} {d:List Value} (h:w.ownsRow base e a v n d) (k:Aa w w'):w'.ownsRow base e a v n d:=by
 obtain ⟨i,b⟩:=h;refine ⟨i,?_⟩;rcases b with b|⟨g,cap,c,l,m,f,r⟩
 .exact Or.inl b
 .exact Or.inr ⟨g,cap,c,l,m,by rw [k.block g (Array.getElem?_eq_some_iff.1 f).1];exact f,r⟩
theorem Tryz.infoWord:(Tryz.prog.info? 144).map (fun i=>(i.zero,i.size,i.bytes))=some (some (.agg #[.int .i64 0,.int .i64 0]),2,16):=by kernel_rfl
def Fg (a:List (Int×Int)):List Value:=a.flatMap fun p=>[.int .i64 p.1,.int .i64 p.2]
theorem O4 (a:List (Int×Int)) (p:Int×Int):Fg (a++[p])=Fg a++[.int .i64 p.1,.int .i64 p.2]:=by simp [Fg]
theorem Jx (s:ByteArray) (h:s.size=4):Af (BQ s.data.toList):=by
 have a:=Lm s.data.toList 4;have b:=MS s.data.toList 4;rw [jR jx] at a b;exact ⟨a,by simpa using b⟩
def Bx (w:World) (a:List Value) (wc:World):Prop:=Aa w wc/\∀v∈a,BM w.heap.size wc v
theorem Bx.later {w a:World} {b:List Value} (h:Bx w b a) {w':World} (k:Aa a w'):Bx w b w':=⟨h.1.trans k,fun v c=>(h.2 v c).later k⟩
theorem Bx.cons {w a : World} {c : List Value} (h : Bx w c a) {v : Value} (k : BM w.heap.size a v) : Bx w (v :: c) a := ⟨h.1, fun u b => by
  rcases ja.1 b with rfl | b
  . exact k
  . exact h.2 u b⟩
theorem BM.new {B:Nat} {w:World} (h:B<=w.heap.size) {x y:Int} (a:Af x) (b:Af y) (t:TypeId):BM B (w.alloc (.cells #[.int .i64 x,.int .i64 y] t)) (.pointer (some ⟨w.heap.size,0,none⟩)):=
 ⟨w.heap.size,x,y,rfl,h,js,js,js,js,a,b⟩
def I3 (wc:World) (a:Nat):Prop:=∀j:Nat,j<4->∃s:ByteArray,s.size=8/\wc.cell? ⟨a,j,none⟩=some (.string s)
theorem I3.later {a w:World} {b:Nat} (h:I3 a b) (k:Aa a w):I3 w b:=fun j c=>by
 obtain ⟨s,d,f⟩:=h j c;exact ⟨s,d,k.cell f⟩
def ND (w:World) (a:List Value) (b:Nat) (v:Value) (k:Nat) (c:List (Int×Int)) (wr:World):Prop:=
 ∃S:World,Bx w a S/\I3 S b/\Aa S wr/\wr.ownsRow S.heap.size 144 2 v k (Fg c)
theorem ND.step {w:World} {c:List Value} {d:Nat} {v f:Value} {k:Nat} {a:List (Int×Int)} {wr W w':World} {p:Int×Int} {S:World} (i:Bx w c S) (l:I3 S d) (m:Aa S wr) (n:wr.ownsRow S.heap.size 144 2 v k (Fg a))
  (o:Aa wr W) (q:W.grownBy w' v.ownBlock) (r:w'.ownsRow S.heap.size 144 2 f (k+1) (Fg a++[.int .i64 p.1,.int .i64 p.2])):ND w c d f (k+1) (a++[p]) w':=by
 refine ⟨S,i,l,?_,by rw [O4];exact r⟩;exact (m.trans o).grown q fun g b=>(n.lt g b).1
theorem LT {w w':World} {a b c d f g i k:Addr} {l m n o p q r s:Value} (h:Aa w w') (t:w.cell? a=some l) (u:w.cell? b=some m) (v:w.cell? c=some n) (x:w.cell? d=some o) (y:w.cell? f=some p) (z:w.cell? g=some q) (A:w.cell? i=some r) (B:w.cell? k=some s):
  Aa w w'/\w'.cell? a=some l/\w'.cell? b=some m/\w'.cell? c=some n/\w'.cell? d=some o/\w'.cell? f=some p/\w'.cell? g=some q/\w'.cell? i=some r/\w'.cell? k=some s:=⟨h,h.cell t,h.cell u,h.cell v,h.cell x,h.cell y,h.cell z,h.cell A,h.cell B⟩
theorem RA {a t r:Nat} (b:r=7 - a % 8) (c:¬a % 8=7) (h:a+r=t+(7 - t % 8)):a+1+(7 - (a+1) % 8)=t+(7 - t % 8):=jo
theorem I0 (w:World) (a b:Value) (t:TypeId) (n:Nat) (c:n=w.heap.size):∀j u,[a,b][j]?=some u->(w.alloc (.cells #[a,b] t)).cell? ((⟨n,0,none⟩:Addr).add j)=some u:=by
 subst c;exact cell_two_new w a b t
def BC (x:Int):Prop:=0<=x/\x<18446744073709551616
theorem Hi {a b:Int} (c:BC a) (d:BC b):Be a b=((a.toNat ^^^ b.toNat:Nat):Int)/\a.toNat ^^^ b.toNat<18446744073709551616:=by
 obtain ⟨A,rfl⟩:=jM c.1;obtain ⟨B,rfl⟩:=jM d.1;have f:=c.2;have g:=d.2;refine ⟨u64_xor_nat A B jo jo,?_⟩;have:A ^^^ B<2 ^ 64:=Nat.xor_lt_two_pow jo jo;simp only [Int.toNat_natCast];omega
theorem ML {a b:Int} (c:BC a) (d:BC b):BC (Be a b):=by
 obtain ⟨f,g⟩:=Hi c d;rw [f];exact ⟨jo,jo⟩
theorem JT {a b:Int} (c:BC a) (d:BC b):Be a b=Be b a:=by
 rw [(Hi c d).1,(Hi d c).1,Nat.xor_comm]
theorem Ri {a b c:Int} (f:BC a) (d:BC b) (g:BC c):Be (Be a b) c=Be a (Be b c):=by
 rw [(Hi (ML f d) g).1,(Hi f (ML d g)).1,(Hi f d).1,(Hi d g).1];simp only [Int.toNat_natCast];rw [Nat.xor_assoc]
theorem Ks {a b:Int} (c:Af a) (d:Af b):BC (wv a b):=Fy c d
theorem OA (t:ByteArray) (f:Nat):BC (BE t f):=by
 rw [GD];have a:=Ct t f;have b:=Ct t (f+1);have c:=Ct t (f+2);have d:=Ct t (f+3);have g:=Ct t (f+4);have i:=Ct t (f+5);have k:=Ct t (f+6);have l:=Ct t (f+7);unfold BC;omega
theorem TF (s:ByteArray) (a b i:Nat) (f:b<=s.size) (g:a+i<b):AQ (s.extract a b) i=AQ s (a+i):=by
 have c:i<(s.extract a b).size:=by rw [ByteArray.size_extract];omega
 have d:a+i<s.size:=jo
 unfold AQ;rw [dif_pos c,dif_pos d,ByteArray.getElem_extract]
theorem MN (s:ByteArray) (a b:Nat) (c:b<=s.size) (d:a+8<=b):BE (s.extract a b) 0=BE s a:=by
 have e:∀j,j<8->AQ (s.extract a b) j=AQ s (a+j):=fun j f=>TF s a b j c jo
 rw [GD,GD];simp only [Nat.zero_add];rw [e 7 jo,e 6 jo,e 5 jo,e 4 jo,e 3 jo,e 2 jo,e 1 jo,e 0 jo];rfl
theorem Gn (s:ByteArray) (i:Nat) (h:i<s.size):AQ s i=(s[i].toNat:Int):=by
 unfold AQ;rw [dif_pos h]
theorem Kl (s t:ByteArray) (i:Nat) (h:i<s.size):AQ (s++t) i=AQ s i:=by
 have a:i<(s++t).size:=by rw [jY];omega
 unfold AQ;rw [dif_pos a,dif_pos h,ByteArray.getElem_append_left]
theorem Nt (s t:ByteArray) (i:Nat):AQ (s++t) (s.size+i)=AQ t i:=by
 unfold AQ;by_cases h:i<t.size
 .have a:s.size+i<(s++t).size:=by rw [jY];omega
  rw [dif_pos a,dif_pos h,ByteArray.getElem_append_right jo];simp only [Nat.add_sub_cancel_left]
 .have a:¬s.size+i<(s++t).size:=by rw [jY];omega
  rw [dif_neg a,dif_neg h]
theorem TL (s:ByteArray) (a:s.size=8):wv (((s[7].toNat * 256+s[6].toNat) * 256+s[5].toNat) * 256+s[4].toNat) (((s[3].toNat * 256+s[2].toNat) * 256+s[1].toNat) * 256+s[0].toNat)=BE s 0:=by
 rw [GD];simp only [Nat.zero_add];rw [Gn s 7 jo,Gn s 6 jo,Gn s 5 jo,Gn s 4 jo,Gn s 3 jo,Gn s 2 jo,Gn s 1 jo,Gn s 0 jo];unfold wv;omega
theorem LD (s:ByteArray) (w:World) (a:s.size=8):
  Calls Tryz.prog 166 #[.string s] w (Gx w (Gv (BE s 0))):=by
 have E:=jp (TL s a);generalize BE s 0=V at *;have b:=D4 s 0 (by omega);have c:=D4 s 1 (by omega);have d:=D4 s 2 (by omega);have f:=D4 s 3 (by omega);have g:=D4 s 4 (by omega);have i:=D4 s 5 (by omega);have k:=D4 s 6 (by omega);have l:=D4 s 7 (by omega);go_enter Tryz.func166,Tryz.ntmps166;go_wp2;refine wp_loop_rounds 5 ?_;rw [rounds_succ];go_wp2;go_region;go_wp2;go_region;go_wp2;rw [rounds_succ];go_wp2;go_region;go_wp2;go_region;go_wp2;rw [rounds_succ];go_wp2;go_region;go_wp2;go_region;go_wp2;rw [rounds_succ];go_wp2;go_region;go_wp2;go_region;go_wp2;rw [rounds_succ];go_wp2;exact bodyPost_ret (v:= .agg #[.int .i64 (((s[7].toNat * 256+s[6].toNat) * 256+s[5].toNat) * 256+s[4].toNat),.int .i64 (((s[3].toNat * 256+s[2].toNat) * 256+s[1].toNat) * 256+s[0].toNat)]) (by simp [results,Tryz.results166,go_sem]) rfl ⟨_,_,rfl,by (repeat (first|exact jD _|assumption|refine jA ?_|refine jB ?_|refine jC ?_|refine Aa.step_set ?_ (by simp <;>omega) _|refine jE ?_ (by assumption))),⟨by omega,by omega⟩,⟨by omega,by omega⟩,E.out⟩
def I5 (s:ByteArray):Int:=wv (BQ (s.extract 0 4).data.toList) (BQ (s.extract 4 8).data.toList)
def CY (j:Nat):Int:=if j=0 then 8317987319222330741 else if j=1 then 7237128888997146477 else if j=2 then 7816392313619706465 else 8387220255154660723
def IE (wc:World) (a:Nat):Prop:=∀j:Nat,j<4->∃s:ByteArray,s.size=8/\wc.cell? ⟨a,j,none⟩=some (.string s)/\I5 s=CY j
theorem IE.later {a w:World} {b:Nat} (h:IE a b) (k:Aa a w):IE w b:=fun j c=>by
 obtain ⟨s,d,f,g⟩:=h j c;exact ⟨s,d,k.cell f,g⟩
theorem W8 (w:World) (a b c d:ByteArray) (i:a.size=8) (k:b.size=8) (l:c.size=8) (m:d.size=8) (n:I5 a=CY 0) (o:I5 b=CY 1) (p:I5 c=CY 2) (q:I5 d=CY 3) (t:TypeId) (g:Nat) (f:g=w.heap.size):IE (w.alloc (.cells #[.string a,.string b,.string c,.string d] t)) g:=by
 subst f;intro j r
 match j,r with
 |0,_=>exact ⟨a,i,js,n⟩
 |1,_=>exact ⟨b,k,js,o⟩
 |2,_=>exact ⟨c,l,js,p⟩
 |3,_=>exact ⟨d,m,js,q⟩
def Ci (K L:Int) (j:Nat):Int:=if j % 2=0 then Be (CY j) K else Be (CY j) L
theorem Kh (j:Nat):BC (CY j):=by
 unfold CY BC;split
 .omega
 .split
  .omega
  .split <;>omega
theorem WP {K L:Int} (a:BC K) (b:BC L):(⟨Ci K L 0,Ci K L 1,Ci K L 2,Ci K L 3⟩:S4)=Dt K L:=by
 have c:Ci K L 0=Be K (CY 0):=by show Be (CY 0) K=_;exact JT (Kh 0) a
 have d:Ci K L 1=Be L (CY 1):=by show Be (CY 1) L=_;exact JT (Kh 1) b
 have f:Ci K L 2=Be K (CY 2):=by show Be (CY 2) K=_;exact JT (Kh 2) a
 have g:Ci K L 3=Be L (CY 3):=by show Be (CY 3) L=_;exact JT (Kh 3) b
 rw [c,d,f,g];rfl
def Jt (w:World) (K L:Int) (b c:Value) (d:Nat) (v:Value) (k:Nat) (a:List (Int×Int)) (wr:World):Prop:=
 ∃S:World,AP w [(b,K),(c,L)] S/\IE S d/\Aa S wr/\wr.ownsRow S.heap.size 144 2 v k (Fg a)/\a.map (fun p=>wv p.1 p.2)=(List.range k).map (Ci K L)
theorem Jt.step {w:World} {K L:Int} {c d:Value} {f:Nat} {v i:Value} {k:Nat} {a:List (Int×Int)} {wr W w':World} {p:Int×Int} {S:World} (l:AP w [(c,K),(d,L)] S) (m:IE S f) (n:Aa S wr) (o:wr.ownsRow S.heap.size 144 2 v k (Fg a)) (q:a.map (fun p=>wv p.1 p.2)=(List.range k).map (Ci K L))
  (r:Aa wr W) (s:W.grownBy w' v.ownBlock) (t:w'.ownsRow S.heap.size 144 2 i (k+1) (Fg a++[.int .i64 p.1,.int .i64 p.2])) (u:wv p.1 p.2=Ci K L k):Jt w K L c d f i (k+1) (a++[p]) w':=by
 refine ⟨S,l,m,?_,by rw [O4];exact t,?_⟩
 .exact (n.trans r).grown s fun g b=>(o.lt g b).1
 .rw [List.map_append,List.range_succ,List.map_append,q,List.map_cons,List.map_nil,u];rfl
theorem Qq {w:World} {base:Nat} {v:Value} {d:List (Int×Int)} {K L:Int} (h:w.ownsRow base 144 2 v 4 (Fg d)) (a:∀p∈d,Af p.1/\Af p.2) (c:d.map (fun p=>wv p.1 p.2)=(List.range 4).map (Ci K L)) (i:BC K) (k:BC L):
  ∃g cap,v= .slice (some ⟨g,0,none⟩) 4 cap/\base<=g/\Du w g (Dt K L):=by
 have l:d.length=4:=by have:=congrArg List.length c;simpa using this
 rcases h.2 with ⟨_,m⟩|⟨g,cap,n,f,o,r,s,t,u,x⟩
 .cases m
 .refine ⟨g,cap,f,o,?_⟩
  match d,l with
  |[p0,p1,p2,p3],_=>
   have b:=h.cells (g:=g) (by rw [f];rfl);rw [<-WP i k];have q:(List.range 4).map (Ci K L)=[Ci K L 0,Ci K L 1,Ci K L 2,Ci K L 3]:=rfl;rw [q] at c;simp only [List.map_cons,List.map_nil,List.cons.injEq,and_true] at c;exact ⟨p0.1,p0.2,p1.1,p1.2,p2.1,p2.2,p3.1,p3.2,⟨(a p0 js).1,(a p0 js).2,(a p1 js).1,(a p1 js).2,(a p2 js).1,(a p2 js).2,(a p3 js).1,(a p3 js).2⟩,⟨b 0 _ rfl,b 1 _ rfl,b 2 _ rfl,b 3 _ rfl,b 4 _ rfl,b 5 _ rfl,b 6 _ rfl,b 7 _ rfl⟩,c.1,c.2.1,c.2.2.1,c.2.2.2⟩
def Gm (t s:ByteArray):Prop:=t.size<=s.size/\(∀i,i<t.size->AQ s i=AQ t i)/\∀i,t.size<=i->AQ s i=0
theorem Gm.refl (t:ByteArray):Gm t t:=⟨jH _,fun _ _=>rfl,fun i a=>I4 t i jo⟩
theorem Gm.more {t s:ByteArray} (h:Gm t s):Gm t (s++⟨#[0]⟩):=by
 obtain ⟨g,b,c⟩:=h;refine ⟨by rw [jY];omega,fun i a=>by rw [Kl _ _ _ jo];exact b i a,fun i a=>?_⟩;by_cases d:i<s.size
 .rw [Kl _ _ _ d];exact c i a
 .obtain ⟨j,rfl⟩:∃j,i=s.size+j:=⟨i - s.size,jo⟩;rw [Nt];by_cases f:j=0
  .subst f;rfl
  .exact I4 _ _ (by show ¬j<1;omega)
theorem Gm.done {t s:ByteArray} (h:Gm t s) (b:s.size=8 * (t.size / 8)+7):Gz t (s++BH ((t.size:Int) % 256)):=by
 obtain ⟨g,c,d⟩:=h;refine ⟨fun i a=>by rw [Kl _ _ _ jo];exact c i a,fun i a f=>by rw [Kl _ _ _ jo];exact d i a,?_,by rw [jY,EU];omega⟩;rw [<-b,show s.size=s.size+0 from rfl,Nt,Gn _ 0 (by rw [EU];omega)];have:(BH ((t.size:Int) % 256))[0]'(by rw [EU];omega)=UInt8.ofNat ((t.size:Int) % 256).toNat:=rfl;rw [this,UInt8.toNat_ofNat'];omega
theorem XQ {t y:ByteArray} (h:Gz t y) (s:S4):∀n,n<=t.size / 8->CH y s n=CH t s n:=by
 intro n
 induction n with
 |zero=>intro _;rfl
 |succ n ih=>
  intro a;rw [CH,CH,ih jo,h.word n jo]
theorem Wf {t y:ByteArray} (h:Gz t y) (s:S4):CH y s (t.size / 8+1)=(CH t s (t.size / 8)).take (bits .or .u64 (BE t (8 * (t.size / 8))) ((t.size:Int) * 72057594037927936 % 18446744073709551616)):=by
 rw [CH,XQ h s _ (jH _),h.last]
end Go.Proofs.YtpapdkhjdelfcaaGreat
