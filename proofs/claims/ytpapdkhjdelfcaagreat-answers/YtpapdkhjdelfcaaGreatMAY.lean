import Derived.Test.YtpapdkhjdelfcaaGreatMAX
namespace Go.Proofs.YtpapdkhjdelfcaaGreat
open Go.RowKit
set_option maxRecDepth 100000
set_option maxHeartbeats 4000000
def Du (w:jj) (b:Nat) (s:S4):Prop:=∃x0 f g i k l m n:Int,(Af x0/\Af f/\Af g/\Af i/\Af k/\Af l/\Af m/\Af n)/\
 (w.cell? ⟨b, 0, none⟩ = some (.int .i64 x0) /\ w.cell? ⟨b, 1, none⟩ = some (.int .i64 f) /\ w.cell? ⟨b, 2, none⟩ = some (.int .i64 g) /\ w.cell? ⟨b, 3, none⟩ = some (.int .i64 i) /\
 w.cell? ⟨b, 4, none⟩ = some (.int .i64 k) /\ w.cell? ⟨b, 5, none⟩ = some (.int .i64 l) /\ w.cell? ⟨b, 6, none⟩ = some (.int .i64 m) /\ w.cell? ⟨b, 7, none⟩ = some (.int .i64 n)) /\
 wv x0 f=s.a/\wv g i=s.b/\wv k l=s.c/\wv m n=s.d
theorem Du.later {a w:jj} (h:Aa a w) {b:Nat} {s:S4} (k:Du a b s):Du w b s:=by
 obtain ⟨x0,c,d,f,g,i,l,m,hx,⟨n,o,p,q,r,t,u,v⟩,x⟩:=k;exact ⟨x0,c,d,f,g,i,l,m,hx,⟨h.cell n,h.cell o,h.cell p,h.cell q,h.cell r,h.cell t,h.cell u,h.cell v⟩,x⟩
def Sy (w:jj) (s:S4) (e:Ending) (w':jj):Prop:=∃b a:Nat,e= .returned (.slice (some ⟨b,0,none⟩) 4 a)/\Aa w w'/\Du w' b s
def S4.rounds (s:S4):Nat->S4
 |0=>s
 |n+1=>S4.rounds s.round n
def AX (base:Nat) (w:jj) (v:ju) (X:Int):Prop:=∃(p:Nat) (x y:Int),v= .pointer (some ⟨p,0,none⟩)/\base<=p/\w.cell? ⟨p,0,none⟩=some (.int .i64 x)/\w.cell? ⟨p,1,none⟩=some (.int .i64 y)/\w.frozen? ⟨p,0,none⟩=false/\w.frozen? ⟨p,1,none⟩=false/\Af x/\Af y/\wv x y=X
theorem AX.later {B:Nat} {a w:jj} {v:ju} {X:Int} (k:AX B a v X) (h:Aa a w):AX B w v X:=by
 obtain ⟨p,x,y,rfl,d,b,c,f,g,r⟩:=k;exact ⟨p,x,y,rfl,d,h.cell b,h.cell c,h.frozen b f,h.frozen c g,r⟩
theorem AX.new {B:Nat} {w:jj} {x y X:Int} (a:B<=w.heap.size) (hx:Af x) (b:Af y) (c:wv x y=X) (t:TypeId):AX B (w.alloc (.cells #[.int .i64 x,.int .i64 y] t)) (.pointer (some ⟨w.heap.size,0,none⟩)) X:=
 ⟨_,x,y,rfl,a,js,js,js,js,hx,b,c⟩
theorem AX.stored {B:Nat} {w:jj} {p:Nat} {u0 u1:ju} {X:Int} (a:B<=p) (b:w.cell? ⟨p,0,none⟩=some u0) (c:w.cell? ⟨p,1,none⟩=some u1) (d:w.frozen? ⟨p,0,none⟩=false) (f:w.frozen? ⟨p,1,none⟩=false) {x y:Int} (hx:Af x) (g:Af y) (i:wv x y=X):
  AX B ((w.setCell ⟨p,0,none⟩ (.int .i64 x)).setCell ⟨p,1,none⟩ (.int .i64 y)) (.pointer (some ⟨p,0,none⟩)) X:=by
 refine ⟨p,x,y,rfl,a,?_,?_,by rw [Ag,Ag];exact d,by rw [Ag,Ag];exact f,hx,g,i⟩
 .rw [Ad js];exact Bc b
 .exact Bc (v:=u1) (by rw [Ad js];exact c)
def AP (w:jj) (a:List (Value×Int)) (wc:jj):Prop:=Aa w wc/\(∀v∈a,AX w.heap.size wc v.1 v.2)/\(a.map (·.1)).Nodup
theorem AP.nil (w:jj):AP w [] w:=⟨jD _,fun v a=>by simp at a,js⟩
theorem AP.later {w a:jj} {b:List (Value×Int)} (h:AP w b a) {w':jj} (k:Aa a w'):AP w b w':=⟨h.1.trans k,fun v c=>(h.2.1 v c).later k,h.2.2⟩
theorem AP.more {w a w':jj} {c:List (Value×Int)} {p:Nat} {X:Int} (h:AP w c a) (k:Aa a w') (f:AX w.heap.size w' (.pointer (some ⟨p,0,none⟩)) X) (n:a.heap.size<=p):AP w (c++[(.pointer (some ⟨p,0,none⟩),X)]) w':=by
 refine ⟨h.1.trans k,fun v b=>?_,?_⟩
 .rcases jT.1 b with b|b
  .exact (h.2.1 v b).later k
  .rw [jP.1 b];exact f
 .rw [List.map_append,List.nodup_append];refine ⟨h.2.2,js,fun u g z d=>?_⟩;obtain ⟨v,b,rfl⟩:=List.mem_map.1 g;obtain ⟨q,x,y,e, -,i, -⟩:=h.2.1 v b;have l:=jF i;simp only [List.map_cons,List.map_nil,jP] at d;subst d;rw [e];intro m;simp only [Value.pointer.injEq,Option.some.injEq,Addr.mk.injEq,and_true] at m;simp only at l;omega
theorem AP.put {w a u:jj} {d:List (Value×Int)} {p:Nat} {X n:Int} (h:AP w d a) (k:Aa a u) (i:Nat) (o:d[i]?=some (.pointer (some ⟨p,0,none⟩),X)) {x y:Int} (hx:Af x) (C:Af y) (D:wv x y=n):
  AP w (d.set i (.pointer (some ⟨p,0,none⟩),n)) ((u.setCell ⟨p,0,none⟩ (.int .i64 x)).setCell ⟨p,1,none⟩ (.int .i64 y)):=by
 have f:=(List.getElem?_eq_some_iff.1 o).1;have l:=(List.getElem?_eq_some_iff.1 o).2;obtain ⟨q,x0,T,e,s,E,F,G,H, -⟩:=(h.2.1 _ (List.mem_of_getElem? o)).later k;simp only [Value.pointer.injEq,Option.some.injEq,Addr.mk.injEq,and_true] at e;subst e
 have m:(d.set i (.pointer (some ⟨p,0,none⟩),n)).map (·.1)=d.map (·.1):=by
  apply List.ext_getElem
  .simp
  .intro j U V;simp only [List.getElem_map,List.getElem_set];split
   .rename_i e;subst e;simp [l]
   .rfl
 refine ⟨((h.1.trans k).step_set (p:=⟨p,0,none⟩) s _).step_set (p:=⟨p,1,none⟩) s _,fun v I=>?_,by rw [m];exact h.2.2⟩;obtain ⟨j,J,rfl⟩:=List.mem_iff_getElem.1 I;have b:j<d.length:=by simpa using J
 by_cases g:i=j
 .subst g;simp only [List.getElem_set_self];exact AX.stored s E F G H hx C D
 .simp only [List.getElem_set_ne g];obtain ⟨r,K,L,z,M,N,O,P,Q,R⟩:=(h.2.1 _ (jJ b)).later k
  have c:p≠r:=fun S=>by
   have A:=List.pairwise_iff_getElem.1 h.2.2
   have B:(d.map (·.1))[i]'(by simpa using f)=(d.map (·.1))[j]'(by simpa using b):=by
    simp only [List.getElem_map,l,z,S]
   rcases Nat.lt_or_gt_of_ne g with t|t
   .exact A i j (by simpa using f) (by simpa using b) t B
   .exact A j i (by simpa using b) (by simpa using f) t B.symm
  refine ⟨r,K,L,z,M,?_,?_,by rw [Ag,Ag];exact P,by rw [Ag,Ag];exact Q,R⟩
  .rw [Ad (Or.inl c),Ad (Or.inl c)];exact N
  .rw [Ad (Or.inl c),Ad (Or.inl c)];exact O
theorem Om (b cap:Nat) (n:Nat) (s:S4) (w:jj) (ba:n<=4) (h4:Du w b s):
  Calls Tryz.prog 168 #[.slice (some ⟨b,0,none⟩) 4 cap,.int .i64 n] w (Sy w (s.rounds n)):=by
 obtain ⟨R,hR⟩:∃R,R=s.rounds n:=⟨_,rfl⟩;rw [<-hR];have HR:=jp hR;clear hR;go_enter Tryz.func168,Tryz.ntmps168;go_wp2;go_loopg [0,1] n (fun g v i wr=>∃(b' ae q:Nat) (t:S4),v= .slice (some ⟨b',0,none⟩) 4 ae/\i= .int .i64 q/\q<=4/\g=q/\Du wr b' t/\Aa w wr/\R=t.rounds q)
 case atStart=>exact ⟨b,cap,n,s,rfl,rfl,ba,rfl,h4,jD _,HR.out⟩
 case round=>
  obtain ⟨b',ae,q,t,rfl,rfl,Z,hg,am,hb,an⟩:=hrel;clear h4;have ak:=jp an;clear an HR;by_cases bj:0<q
  .have HB:=jp hb;obtain ⟨q,rfl⟩:∃q',q=q'+1:=⟨q - 1,jo⟩;obtain ⟨x0,x1,x2,x3,x4,x5,x6,x7,⟨g0,g1,g2,g3,g4,g5,g6,g7⟩,⟨o0,o1,o2,o3,o4,o5,o6,o7⟩,e0,e1,e2,e3⟩:=am;obtain ⟨ta,tb,tc,td⟩:=t;simp only at e0 e1 e2 e3;have d:AP wr [] wr:=AP.nil wr;clear hb;obtain ⟨a1,E0⟩:∃X,X=G4 ta tb:=⟨_,rfl⟩;have H0:=jp E0;clear E0;obtain ⟨b0,E1⟩:∃X,X=Ca tb 13:=⟨_,rfl⟩;have H1:=jp E1;clear E1;obtain ⟨Y,E2⟩:∃X,X=Be b0 a1:=⟨_,rfl⟩;have H2:=jp E2;clear E2;obtain ⟨a2,E3⟩:∃X,X=Ca a1 32:=⟨_,rfl⟩;have H3:=jp E3;clear E3;obtain ⟨c1,E4⟩:∃X,X=G4 tc td:=⟨_,rfl⟩;have H4:=jp E4;clear E4;obtain ⟨d0,E5⟩:∃X,X=Ca td 16:=⟨_,rfl⟩;have H5:=jp E5;clear E5;obtain ⟨d1,E6⟩:∃X,X=Be d0 c1:=⟨_,rfl⟩;have H6:=jp E6;clear E6;obtain ⟨a3,E7⟩:∃X,X=G4 a2 d1:=⟨_,rfl⟩;have H7:=jp E7;clear E7;obtain ⟨d2,E8⟩:∃X,X=Ca d1 21:=⟨_,rfl⟩;have H8:=jp E8;clear E8;obtain ⟨d3,E9⟩:∃X,X=Be d2 a3:=⟨_,rfl⟩;have H9:=jp E9;clear E9;obtain ⟨c2,ao⟩:∃X,X=G4 c1 Y:=⟨_,rfl⟩;have ap:=jp ao;clear ao;obtain ⟨b2,aq⟩:∃X,X=Ca Y 17:=⟨_,rfl⟩;have ar:=jp aq;clear aq;obtain ⟨b3,au⟩:∃X,X=Be b2 c2:=⟨_,rfl⟩;have av:=jp au;clear au;obtain ⟨c3,aw⟩:∃X,X=Ca c2 32:=⟨_,rfl⟩;have ax:=jp aw;clear aw
   have ay:Hid (R=S4.rounds ⟨a3,b3,c3,d3⟩ q):=by
    show R=_;rw [ak.out];show S4.rounds (S4.round ⟨ta,tb,tc,td⟩) q=_;congr 1;rw [ax.out,av.out,ar.out,ap.out,H9.out,H8.out,H7.out,H6.out,H5.out,H4.out,H3.out,H2.out,H1.out,H0.out];rfl
   clear ak;have bk:decide (((q+1:Nat):Int)>0)=true:=jL jo;go_wp2_with fail;go_cut [5] (fun u5 wc=>AP wr [(u5,a1)] wc)
   case first=>
    have c0:=d.1.cell o0;have c1:=d.1.cell o1;have c2:=d.1.cell o2;have c3:=d.1.cell o3;go_region_held3 (fun w'=>Aa wr w'/\w'.cell? ⟨b',0,none⟩=some (.int .i64 x0)/\w'.cell? ⟨b',1,none⟩=some (.int .i64 x1)/\w'.cell? ⟨b',2,none⟩=some (.int .i64 x2)/\w'.cell? ⟨b',3,none⟩=some (.int .i64 x3)) ((refine If ?_ c0 c1 c2 c3;exact jq)) ((go_at_call 191;refine (Iw _ _ _ _ _ g0 g1 g2 g3).mono ?_;rintro e x ⟨f,k,rfl,a,o,r,l⟩;obtain ⟨Z,af⟩:=a.cells))
    all_goals
     have u:Hid (wv f k=a1):=by
      show wv f k=_;have c:=show wv f k=_ from l
      rw [e0,e1] at c;rw [H0.out];exact c
     clear l;go_wp2;go_meet
     case rel=>
      have m:Aa wr x:=jq
      have hw:=(d.1.trans m).size;have al:=d.1.size
      first
       |exact d.more (m.step_alloc _) (AX.new hw o r u.out _) m.size
       |exact d.more ((m.step_set (p:=⟨wr.heap.size,0,none⟩) (jH _) _).step_set (p:=⟨wr.heap.size,1,none⟩) (jH _) _) (AX.stored al ((Z _ _ js).trans (by simp;rfl)) ((Z _ _ js).trans (by simp;rfl)) ((af _ _ js).trans js) ((af _ _ js).trans js) o r u.out) (jH _)
   case rest=>
    replace d:=hcut;clear hcut;go_upto_region 4 with fail
    go_cut [6] (fun u6 wc=>AP wr [(u5,a1),(u6,b0)] wc)
    case first=>
     have c2:=d.1.cell o2;have c3:=d.1.cell o3;go_wp2_with fail;refine (Ih _ _ _ _ g2 g3 ji).mono ?_;rintro e x ⟨f,k,rfl,a,o,r,l⟩
     have u:Hid (wv f k=b0):=by
      show wv f k=_;have c:=show wv f k=_ from l
      rw [e1] at c;rw [H1.out];exact c
     clear l;go_wp2;go_meet
     case rel=>
      have m:Aa wc x:=jq
      exact d.more (m.step_alloc _) (AX.new (d.1.trans m).size o r u.out _) m.size
    case rest=>
     replace d:=hcut;clear hcut;go_upto_region 5 with fail
     go_cut [] (fun wc=>AP wr [(u5,a1),(u6,Y)] wc)
     case first=>
      obtain ⟨p6,X6,Y6,rfl,ag,y,z,T,U,C,D,E⟩:=d.2.1 (u6,b0) js;obtain ⟨p5,X5,Y5,rfl,ah,O,P,aa,ab,F,G,H⟩:=d.2.1 (u5,a1) js;go_wp2_with fail;refine (Fb _ _ _ _ _ C D F G).mono ?_;rintro e x ⟨f,k,rfl,a,o,r,l⟩
      have u:Hid (wv f k=Y):=by
       show wv f k=_;have c:=show wv f k=_ from l
       rw [E,H] at c;rw [H2.out];exact c
      clear l;have az:=a.cell y;have a0:=a.cell z;have a4:=a.frozen y T;have a5:=a.frozen z U;go_wp2;go_meet
      case rel=>
       have m:Aa wc x:=jq
       exact d.put m 1 rfl o r u.out
     case rest=>
      replace d:=hcut;clear hcut;go_upto_region 6 with fail
      go_cut [] (fun wc=>AP wr [(u5,a2),(u6,Y)] wc)
      case first=>
       obtain ⟨p5,X5,Y5,rfl,ah,O,P,aa,ab,F,G,H⟩:=d.2.1 (u5,a1) js;go_wp2_with fail;refine (Ih _ _ _ _ F G ji).mono ?_;rintro e x ⟨f,k,rfl,a,o,r,l⟩
       have u:Hid (wv f k=a2):=by
        show wv f k=_;have c:=show wv f k=_ from l
        rw [H] at c;rw [H3.out];exact c
       clear l;have bb:=a.cell O;have bc:=a.cell P;have bd:=a.frozen O aa;have be:=a.frozen P ab;go_wp2;go_meet
       case rel=>
        have m:Aa wc x:=jq
        exact d.put m 0 rfl o r u.out
      case rest=>
       replace d:=hcut;clear hcut;go_upto_region 7 with fail
       go_cut [7] (fun u7 wc=>AP wr [(u5,a2),(u6,Y),(u7,c1)] wc)
       case first=>
        have c4:=d.1.cell o4;have c5:=d.1.cell o5;have c6:=d.1.cell o6;have c7:=d.1.cell o7;go_region_held3 (fun w'=>Aa wc w'/\w'.cell? ⟨b',4,none⟩=some (.int .i64 x4)/\w'.cell? ⟨b',5,none⟩=some (.int .i64 x5)/\w'.cell? ⟨b',6,none⟩=some (.int .i64 x6)/\w'.cell? ⟨b',7,none⟩=some (.int .i64 x7)) ((refine If ?_ c4 c5 c6 c7;exact jq)) ((go_at_call 191;refine (Iw _ _ _ _ _ g4 g5 g6 g7).mono ?_;rintro e x ⟨f,k,rfl,a,o,r,l⟩;obtain ⟨Z,af⟩:=a.cells))
        all_goals
         have u:Hid (wv f k=c1):=by
          show wv f k=_;have c:=show wv f k=_ from l
          rw [e2,e3] at c;rw [H4.out];exact c
         clear l;go_wp2;go_meet
         case rel=>
          have m:Aa wc x:=jq
          have hw:=(d.1.trans m).size;have al:=d.1.size
          first
           |exact d.more (m.step_alloc _) (AX.new hw o r u.out _) m.size
           |exact d.more ((m.step_set (p:=⟨wc.heap.size,0,none⟩) (jH _) _).step_set (p:=⟨wc.heap.size,1,none⟩) (jH _) _) (AX.stored al ((Z _ _ js).trans (by simp;rfl)) ((Z _ _ js).trans (by simp;rfl)) ((af _ _ js).trans js) ((af _ _ js).trans js) o r u.out) (jH _)
       case rest=>
        replace d:=hcut;clear hcut;go_upto_region 8 with fail
        go_cut [8] (fun u8 wc=>AP wr [(u5,a2),(u6,Y),(u7,c1),(u8,d0)] wc)
        case first=>
         have c6:=d.1.cell o6;have c7:=d.1.cell o7;go_wp2_with fail;refine (Ih _ _ _ _ g6 g7 ji).mono ?_;rintro e x ⟨f,k,rfl,a,o,r,l⟩
         have u:Hid (wv f k=d0):=by
          show wv f k=_;have c:=show wv f k=_ from l
          rw [e3] at c;rw [H5.out];exact c
         clear l;go_wp2;go_meet
         case rel=>
          have m:Aa wc x:=jq
          exact d.more (m.step_alloc _) (AX.new (d.1.trans m).size o r u.out _) m.size
        case rest=>
         replace d:=hcut;clear hcut;go_upto_region 9 with fail
         go_cut [] (fun wc=>AP wr [(u5,a2),(u6,Y),(u7,c1),(u8,d1)] wc)
         case first=>
          obtain ⟨p8,X8,Y8,rfl,ai,A,B,V,W,I,J,K⟩:=d.2.1 (u8,d0) js;obtain ⟨p7,X7,Y7,rfl,aj,Q,S,ac,ad,L,M,N⟩:=d.2.1 (u7,c1) js;go_wp2_with fail;refine (Fb _ _ _ _ _ I J L M).mono ?_;rintro e x ⟨f,k,rfl,a,o,r,l⟩
          have u:Hid (wv f k=d1):=by
           show wv f k=_;have c:=show wv f k=_ from l
           rw [K,N] at c;rw [H6.out];exact c
          clear l;have a6:=a.cell A;have a7:=a.cell B;have a8:=a.frozen A V;have a9:=a.frozen B W;go_wp2;go_meet
          case rel=>
           have m:Aa wc x:=jq
           exact d.put m 3 rfl o r u.out
         case rest=>
          replace d:=hcut;clear hcut;go_upto_region 10 with fail
          go_cut [] (fun wc=>AP wr [(u5,a3),(u6,Y),(u7,c1),(u8,d1)] wc)
          case first=>
           obtain ⟨p5,X5,Y5,rfl,ah,O,P,aa,ab,F,G,H⟩:=d.2.1 (u5,a2) js;obtain ⟨p8,X8,Y8,rfl,ai,A,B,V,W,I,J,K⟩:=d.2.1 (u8,d1) js;go_wp2_with fail;refine (Iw _ _ _ _ _ F G I J).mono ?_;rintro e x ⟨f,k,rfl,a,o,r,l⟩
           have u:Hid (wv f k=a3):=by
            show wv f k=_;have c:=show wv f k=_ from l
            rw [H,K] at c;rw [H7.out];exact c
           clear l;have bb:=a.cell O;have bc:=a.cell P;have bd:=a.frozen O aa;have be:=a.frozen P ab;go_wp2;go_meet
           case rel=>
            have m:Aa wc x:=jq
            exact d.put m 0 rfl o r u.out
          case rest=>
           replace d:=hcut;clear hcut;go_upto_region 11 with fail
           go_cut [] (fun wc=>AP wr [(u5,a3),(u6,Y),(u7,c1),(u8,d2)] wc)
           case first=>
            obtain ⟨p8,X8,Y8,rfl,ai,A,B,V,W,I,J,K⟩:=d.2.1 (u8,d1) js;go_wp2_with fail;refine (Ih _ _ _ _ I J ji).mono ?_;rintro e x ⟨f,k,rfl,a,o,r,l⟩
            have u:Hid (wv f k=d2):=by
             show wv f k=_;have c:=show wv f k=_ from l
             rw [K] at c;rw [H8.out];exact c
            clear l;have a6:=a.cell A;have a7:=a.cell B;have a8:=a.frozen A V;have a9:=a.frozen B W;go_wp2;go_meet
            case rel=>
             have m:Aa wc x:=jq
             exact d.put m 3 rfl o r u.out
           case rest=>
            replace d:=hcut;clear hcut;go_upto_region 12 with fail
            go_cut [] (fun wc=>AP wr [(u5,a3),(u6,Y),(u7,c1),(u8,d3)] wc)
            case first=>
             obtain ⟨p8,X8,Y8,rfl,ai,A,B,V,W,I,J,K⟩:=d.2.1 (u8,d2) js;obtain ⟨p5,X5,Y5,rfl,ah,O,P,aa,ab,F,G,H⟩:=d.2.1 (u5,a3) js;go_wp2_with fail;refine (Fb _ _ _ _ _ I J F G).mono ?_;rintro e x ⟨f,k,rfl,a,o,r,l⟩
             have u:Hid (wv f k=d3):=by
              show wv f k=_;have c:=show wv f k=_ from l
              rw [K,H] at c;rw [H9.out];exact c
             clear l;have a6:=a.cell A;have a7:=a.cell B;have a8:=a.frozen A V;have a9:=a.frozen B W;go_wp2;go_meet
             case rel=>
              have m:Aa wc x:=jq
              exact d.put m 3 rfl o r u.out
            case rest=>
             replace d:=hcut;clear hcut;go_upto_region 13 with fail
             go_cut [] (fun wc=>AP wr [(u5,a3),(u6,Y),(u7,c2),(u8,d3)] wc)
             case first=>
              obtain ⟨p7,X7,Y7,rfl,aj,Q,S,ac,ad,L,M,N⟩:=d.2.1 (u7,c1) js;obtain ⟨p6,X6,Y6,rfl,ag,y,z,T,U,C,D,E⟩:=d.2.1 (u6,Y) js;go_wp2_with fail;refine (Iw _ _ _ _ _ L M C D).mono ?_;rintro e x ⟨f,k,rfl,a,o,r,l⟩
              have u:Hid (wv f k=c2):=by
               show wv f k=_;have c:=show wv f k=_ from l
               rw [N,E] at c;rw [ap.out];exact c
              clear l;have bf:=a.cell Q;have bg:=a.cell S;have bh:=a.frozen Q ac;have bi:=a.frozen S ad;go_wp2;go_meet
              case rel=>
               have m:Aa wc x:=jq
               exact d.put m 2 rfl o r u.out
             case rest=>
              replace d:=hcut;clear hcut;go_upto_region 14 with fail
              go_cut [] (fun wc=>AP wr [(u5,a3),(u6,b2),(u7,c2),(u8,d3)] wc)
              case first=>
               obtain ⟨p6,X6,Y6,rfl,ag,y,z,T,U,C,D,E⟩:=d.2.1 (u6,Y) js;go_wp2_with fail;refine (Ih _ _ _ _ C D ji).mono ?_;rintro e x ⟨f,k,rfl,a,o,r,l⟩
               have u:Hid (wv f k=b2):=by
                show wv f k=_;have c:=show wv f k=_ from l
                rw [E] at c;rw [ar.out];exact c
               clear l;have az:=a.cell y;have a0:=a.cell z;have a4:=a.frozen y T;have a5:=a.frozen z U;go_wp2;go_meet
               case rel=>
                have m:Aa wc x:=jq
                exact d.put m 1 rfl o r u.out
              case rest=>
               replace d:=hcut;clear hcut;go_upto_region 15 with fail
               go_cut [] (fun wc=>AP wr [(u5,a3),(u6,b3),(u7,c2),(u8,d3)] wc)
               case first=>
                obtain ⟨p6,X6,Y6,rfl,ag,y,z,T,U,C,D,E⟩:=d.2.1 (u6,b2) js;obtain ⟨p7,X7,Y7,rfl,aj,Q,S,ac,ad,L,M,N⟩:=d.2.1 (u7,c2) js;go_wp2_with fail;refine (Fb _ _ _ _ _ C D L M).mono ?_;rintro e x ⟨f,k,rfl,a,o,r,l⟩
                have u:Hid (wv f k=b3):=by
                 show wv f k=_;have c:=show wv f k=_ from l
                 rw [E,N] at c;rw [av.out];exact c
                clear l;have az:=a.cell y;have a0:=a.cell z;have a4:=a.frozen y T;have a5:=a.frozen z U;go_wp2;go_meet
                case rel=>
                 have m:Aa wc x:=jq
                 exact d.put m 1 rfl o r u.out
               case rest=>
                replace d:=hcut;clear hcut;go_upto_region 16 with fail
                go_cut [] (fun wc=>AP wr [(u5,a3),(u6,b3),(u7,c3),(u8,d3)] wc)
                case first=>
                 obtain ⟨p7,X7,Y7,rfl,aj,Q,S,ac,ad,L,M,N⟩:=d.2.1 (u7,c2) js;go_wp2_with fail;refine (Ih _ _ _ _ L M ji).mono ?_;rintro e x ⟨f,k,rfl,a,o,r,l⟩
                 have u:Hid (wv f k=c3):=by
                  show wv f k=_;have c:=show wv f k=_ from l
                  rw [N] at c;rw [ax.out];exact c
                 clear l;have bf:=a.cell Q;have bg:=a.cell S;have bh:=a.frozen Q ac;have bi:=a.frozen S ad;go_wp2;go_meet
                 case rel=>
                  have m:Aa wc x:=jq
                  exact d.put m 2 rfl o r u.out
                case rest=>
                 replace d:=hcut;clear hcut;obtain ⟨p5,X5,Y5,rfl,ah,O,P,aa,ab,F,G,H⟩:=d.2.1 (u5,a3) js;obtain ⟨p6,X6,Y6,rfl,ag,y,z,T,U,C,D,E⟩:=d.2.1 (u6,b3) js;obtain ⟨p7,X7,Y7,rfl,aj,Q,S,ac,ad,L,M,N⟩:=d.2.1 (u7,c3) js;obtain ⟨p8,X8,Y8,rfl,ai,A,B,V,W,I,J,K⟩:=d.2.1 (u8,d3) js;go_wp2;go_roundg q
                 case measure=>omega
                 case rel=>exact ⟨wc.heap.size,4,q,⟨a3,b3,c3,d3⟩,rfl,by go_num,jo,rfl,⟨X5,Y5,X6,Y6,X7,Y7,X8,Y8,⟨F,G,C,D,L,M,I,J⟩,⟨js,js,js,js,js,js,js,js⟩,H,E,N,K⟩,HB.out.trans (d.1.step_alloc _),ay.out⟩
  .obtain rfl:q=0:=jo
   go_wp2;go_ret;exact ⟨b',ae,rfl,hb,by rw [ak.out];exact am⟩
theorem D4 (s:jt) (k:Nat) (h:k<s.size):0<=((s[k]'h).toNat:Int)/\((s[k]'h).toNat:Int)<=255:=⟨jo,Km _⟩
theorem I6 {w w':jj} {base:Nat} {e:TypeId} {a:Nat} {v:ju} {n:Nat} {d:List Value} (h:w.ownsRow base e a v n d) (k:Aa w w'):w'.ownsRow base e a v n d:=by
 obtain ⟨i,b⟩:=h;refine ⟨i,?_⟩;rcases b with b|⟨g,cap,c,l,m,f,r⟩
 .exact Or.inl b
 .exact Or.inr ⟨g,cap,c,l,m,by rw [k.block g (Array.getElem?_eq_some_iff.1 f).1];exact f,r⟩
theorem Tryz.infoWord:(Tryz.prog.info? 144).map (fun i=>(i.zero,i.size,i.bytes))=some (some (.agg #[.int .i64 0,.int .i64 0]),2,16):=by kernel_rfl
def Fg (a:List (Int×Int)):List Value:=a.flatMap fun p=>[.int .i64 p.1,.int .i64 p.2]
theorem O4 (a:List (Int×Int)) (p:Int×Int):Fg (a++[p])=Fg a++[.int .i64 p.1,.int .i64 p.2]:=by simp [Fg]
theorem Jx (s:jt) (h:s.size=4):Af (BQ s.data.toList):=by
 have a:=Lm s.data.toList 4;have b:=MS s.data.toList 4;rw [jR jx] at a b;exact ⟨a,by simpa using b⟩
def Bx (w:jj) (a:List Value) (wc:jj):Prop:=Aa w wc/\∀v∈a,BM w.heap.size wc v
theorem BM.new {B:Nat} {w:jj} (h:B<=w.heap.size) {x y:Int} (hx:Af x) (a:Af y) (t:TypeId):BM B (w.alloc (.cells #[.int .i64 x,.int .i64 y] t)) (.pointer (some ⟨w.heap.size,0,none⟩)):=
 ⟨w.heap.size,x,y,rfl,h,js,js,js,js,hx,a⟩
theorem LT {w w':jj} {a b c d f g i k:Addr} {l m n o p q r s:ju} (h:Aa w w') (t:w.cell? a=some l) (u:w.cell? b=some m) (v:w.cell? c=some n) (x:w.cell? d=some o) (y:w.cell? f=some p) (z:w.cell? g=some q) (A:w.cell? i=some r) (B:w.cell? k=some s):
  Aa w w'/\w'.cell? a=some l/\w'.cell? b=some m/\w'.cell? c=some n/\w'.cell? d=some o/\w'.cell? f=some p/\w'.cell? g=some q/\w'.cell? i=some r/\w'.cell? k=some s:=⟨h,h.cell t,h.cell u,h.cell v,h.cell x,h.cell y,h.cell z,h.cell A,h.cell B⟩
theorem RA {a t r:Nat} (b:r=7 - a % 8) (c:¬a % 8=7) (h:a+r=t+(7 - t % 8)):a+1+(7 - (a+1) % 8)=t+(7 - t % 8):=jo
theorem I0 (w:jj) (a b:ju) (t:TypeId) (n:Nat) (c:n=w.heap.size):∀j u,[a,b][j]?=some u->(w.alloc (.cells #[a,b] t)).cell? ((⟨n,0,none⟩:Addr).add j)=some u:=by
 subst c;exact cell_two_new w a b t
def BC (x:Int):Prop:=0<=x/\x<18446744073709551616
theorem Hi {a b:Int} (c:BC a) (d:BC b):Be a b=((a.toNat ^^^ b.toNat:Nat):Int)/\a.toNat ^^^ b.toNat<18446744073709551616:=by
 obtain ⟨A,rfl⟩:=jM c.1;obtain ⟨B,rfl⟩:=jM d.1;have f:=c.2;have g:=d.2;refine ⟨u64_xor_nat A B jo jo,?_⟩;have:A ^^^ B<2 ^ 64:=Nat.xor_lt_two_pow jo jo;simp only [Int.toNat_natCast];omega
theorem ML {a b:Int} (c:BC a) (d:BC b):BC (Be a b):=by
 obtain ⟨f,g⟩:=Hi c d;rw [f];exact ⟨jo,jo⟩
theorem JT {a b:Int} (c:BC a) (d:BC b):Be a b=Be b a:=by
 rw [(Hi c d).1,(Hi d c).1,Nat.xor_comm]
theorem Ri {a b c:Int} (f:BC a) (d:BC b) (g:BC c):Be (Be a b) c=Be a (Be b c):=by
 rw [(Hi (ML f d) g).1,(Hi f (ML d g)).1,(Hi f d).1,(Hi d g).1];simp only [Int.toNat_natCast];rw [Nat.xor_assoc]
theorem Ks {a b:Int} (c:Af a) (d:Af b):BC (wv a b):=Fy c d
theorem OA (t:jt) (f:Nat):BC (BE t f):=by
 rw [GD];have a:=Ct t f;have b:=Ct t (f+1);have c:=Ct t (f+2);have d:=Ct t (f+3);have g:=Ct t (f+4);have i:=Ct t (f+5);have k:=Ct t (f+6);have l:=Ct t (f+7);unfold BC;omega
theorem TF (s:jt) (a b i:Nat) (f:b<=s.size) (g:a+i<b):AQ (s.extract a b) i=AQ s (a+i):=by
 have c:i<(s.extract a b).size:=by rw [ByteArray.size_extract];omega
 have d:a+i<s.size:=jo
 unfold AQ;rw [dif_pos c,dif_pos d,ByteArray.getElem_extract]
theorem MN (s:jt) (a b:Nat) (c:b<=s.size) (d:a+8<=b):BE (s.extract a b) 0=BE s a:=by
 have e:∀j,j<8->AQ (s.extract a b) j=AQ s (a+j):=fun j f=>TF s a b j c jo
 rw [GD,GD];simp only [Nat.zero_add];rw [e 7 jo,e 6 jo,e 5 jo,e 4 jo,e 3 jo,e 2 jo,e 1 jo,e 0 jo];rfl
theorem Gn (s:jt) (i:Nat) (h:i<s.size):AQ s i=(s[i].toNat:Int):=by
 unfold AQ;rw [dif_pos h]
theorem Kl (s t:jt) (i:Nat) (h:i<s.size):AQ (s++t) i=AQ s i:=by
 have a:i<(s++t).size:=by rw [jY];omega
 unfold AQ;rw [dif_pos a,dif_pos h,ByteArray.getElem_append_left]
theorem Nt (s t:jt) (i:Nat):AQ (s++t) (s.size+i)=AQ t i:=by
 unfold AQ;by_cases h:i<t.size
 .have a:s.size+i<(s++t).size:=by rw [jY];omega
  rw [dif_pos a,dif_pos h,ByteArray.getElem_append_right jo];simp only [Nat.add_sub_cancel_left]
 .have a:¬s.size+i<(s++t).size:=by rw [jY];omega
  rw [dif_neg a,dif_neg h]
theorem TL (s:jt) (a:s.size=8):wv (((s[7].toNat * 256+s[6].toNat) * 256+s[5].toNat) * 256+s[4].toNat) (((s[3].toNat * 256+s[2].toNat) * 256+s[1].toNat) * 256+s[0].toNat)=BE s 0:=by
 rw [GD];simp only [Nat.zero_add];rw [Gn s 7 jo,Gn s 6 jo,Gn s 5 jo,Gn s 4 jo,Gn s 3 jo,Gn s 2 jo,Gn s 1 jo,Gn s 0 jo];unfold wv;omega
theorem LD (s:jt) (w:jj) (a:s.size=8):
  Calls Tryz.prog 166 #[.string s] w (Gx w (Gv (BE s 0))):=by
 have E:=jp (TL s a);generalize BE s 0=V at *;have b:=D4 s 0 jo;have c:=D4 s 1 jo;have d:=D4 s 2 jo;have f:=D4 s 3 jo;have g:=D4 s 4 jo;have i:=D4 s 5 jo;have k:=D4 s 6 jo;have l:=D4 s 7 jo;go_enter Tryz.func166,Tryz.ntmps166;go_wp2;refine wp_loop_rounds 5 ?_;rw [rounds_succ];go_wp2;go_region;go_wp2;go_region;go_wp2;rw [rounds_succ];go_wp2;go_region;go_wp2;go_region;go_wp2;rw [rounds_succ];go_wp2;go_region;go_wp2;go_region;go_wp2;rw [rounds_succ];go_wp2;go_region;go_wp2;go_region;go_wp2;rw [rounds_succ];go_wp2;exact bodyPost_ret (v:= .agg #[.int .i64 (((s[7].toNat * 256+s[6].toNat) * 256+s[5].toNat) * 256+s[4].toNat),.int .i64 (((s[3].toNat * 256+s[2].toNat) * 256+s[1].toNat) * 256+s[0].toNat)]) (by simp [results,Tryz.results166,go_sem]) rfl ⟨_,_,rfl,jq,⟨jo,jo⟩,⟨jo,jo⟩,E.out⟩
def I5 (s:jt):Int:=wv (BQ (s.extract 0 4).data.toList) (BQ (s.extract 4 8).data.toList)
def CY (j:Nat):Int:=if j=0 then 8317987319222330741 else if j=1 then 7237128888997146477 else if j=2 then 7816392313619706465 else 8387220255154660723
def IE (wc:jj) (a:Nat):Prop:=∀j:Nat,j<4->∃s:jt,s.size=8/\wc.cell? ⟨a,j,none⟩=some (.string s)/\I5 s=CY j
theorem IE.later {a w:jj} {b:Nat} (h:IE a b) (k:Aa a w):IE w b:=fun j c=>by
 obtain ⟨s,d,f,g⟩:=h j c;exact ⟨s,d,k.cell f,g⟩
theorem W8 (w:jj) (a b c d:jt) (i:a.size=8) (k:b.size=8) (l:c.size=8) (m:d.size=8) (n:I5 a=CY 0) (o:I5 b=CY 1) (p:I5 c=CY 2) (q:I5 d=CY 3) (t:TypeId) (g:Nat) (f:g=w.heap.size):IE (w.alloc (.cells #[.string a,.string b,.string c,.string d] t)) g:=by
 subst f;intro j r
 match j,r with
 |0,_=>exact ⟨a,i,js,n⟩
 |1,_=>exact ⟨b,k,js,o⟩
 |2,_=>exact ⟨c,l,js,p⟩
 |3,_=>exact ⟨d,m,js,q⟩
def Ci (K L:Int) (j:Nat):Int:=if j % 2=0 then Be (CY j) K else Be (CY j) L
theorem Kh (j:Nat):BC (CY j):=by
 unfold CY BC;split
 .omega
 .split
  .omega
  .split <;>omega
theorem WP {K L:Int} (a:BC K) (b:BC L):(⟨Ci K L 0,Ci K L 1,Ci K L 2,Ci K L 3⟩:S4)=Dt K L:=by
 have c:Ci K L 0=Be K (CY 0):=by show Be (CY 0) K=_;exact JT (Kh 0) a
 have d:Ci K L 1=Be L (CY 1):=by show Be (CY 1) L=_;exact JT (Kh 1) b
 have f:Ci K L 2=Be K (CY 2):=by show Be (CY 2) K=_;exact JT (Kh 2) a
 have g:Ci K L 3=Be L (CY 3):=by show Be (CY 3) L=_;exact JT (Kh 3) b
 rw [c,d,f,g];rfl
def Jt (w:jj) (K L:Int) (b c:ju) (d:Nat) (v:ju) (k:Nat) (a:List (Int×Int)) (wr:jj):Prop:=
 ∃S:jj,AP w [(b,K),(c,L)] S/\IE S d/\Aa S wr/\wr.ownsRow S.heap.size 144 2 v k (Fg a)/\a.map (fun p=>wv p.1 p.2)=(List.range k).map (Ci K L)
theorem Jt.step {w:jj} {K L:Int} {c d:ju} {f:Nat} {v i:ju} {k:Nat} {a:List (Int×Int)} {wr W w':jj} {p:Int×Int} {S:jj} (l:AP w [(c,K),(d,L)] S) (m:IE S f) (n:Aa S wr) (o:wr.ownsRow S.heap.size 144 2 v k (Fg a)) (q:a.map (fun p=>wv p.1 p.2)=(List.range k).map (Ci K L))
  (r:Aa wr W) (s:W.grownBy w' v.ownBlock) (t:w'.ownsRow S.heap.size 144 2 i (k+1) (Fg a++[.int .i64 p.1,.int .i64 p.2])) (u:wv p.1 p.2=Ci K L k):Jt w K L c d f i (k+1) (a++[p]) w':=by
 refine ⟨S,l,m,?_,by rw [O4];exact t,?_⟩
 .exact (n.trans r).grown s fun g b=>(o.lt g b).1
 .rw [List.map_append,List.range_succ,List.map_append,q,List.map_cons,List.map_nil,u];rfl
theorem Qq {w:jj} {base:Nat} {v:ju} {c:List (Int×Int)} {K L:Int} (h:w.ownsRow base 144 2 v 4 (Fg c)) (hx:∀p∈c,Af p.1/\Af p.2) (b:c.map (fun p=>wv p.1 p.2)=(List.range 4).map (Ci K L)) (f:BC K) (i:BC L):
  ∃g cap,v= .slice (some ⟨g,0,none⟩) 4 cap/\base<=g/\Du w g (Dt K L):=by
 have k:c.length=4:=by have:=congrArg List.length b;simpa using this
 rcases h.2 with ⟨_,l⟩|⟨g,cap,m,d,n,q,r,s,t,u⟩
 .cases l
 .refine ⟨g,cap,d,n,?_⟩
  match c,k with
  |[p0,p1,p2,p3],_=>
   have a:=h.cells (g:=g) (by rw [d];rfl);rw [<-WP f i];have o:(List.range 4).map (Ci K L)=[Ci K L 0,Ci K L 1,Ci K L 2,Ci K L 3]:=rfl;rw [o] at b;simp only [List.map_cons,List.map_nil,List.cons.injEq,and_true] at b;exact ⟨p0.1,p0.2,p1.1,p1.2,p2.1,p2.2,p3.1,p3.2,⟨(hx p0 js).1,(hx p0 js).2,(hx p1 js).1,(hx p1 js).2,(hx p2 js).1,(hx p2 js).2,(hx p3 js).1,(hx p3 js).2⟩,⟨a 0 _ rfl,a 1 _ rfl,a 2 _ rfl,a 3 _ rfl,a 4 _ rfl,a 5 _ rfl,a 6 _ rfl,a 7 _ rfl⟩,b.1,b.2.1,b.2.2.1,b.2.2.2⟩
def Gm (t s:jt):Prop:=t.size<=s.size/\(∀i,i<t.size->AQ s i=AQ t i)/\∀i,t.size<=i->AQ s i=0
theorem Gm.refl (t:jt):Gm t t:=⟨jH _,fun _ _=>rfl,fun i a=>I4 t i jo⟩
theorem Gm.more {t s:jt} (h:Gm t s):Gm t (s++⟨#[0]⟩):=by
 obtain ⟨g,b,c⟩:=h;refine ⟨by rw [jY];omega,fun i a=>by rw [Kl _ _ _ jo];exact b i a,fun i a=>?_⟩;by_cases d:i<s.size
 .rw [Kl _ _ _ d];exact c i a
 .obtain ⟨j,rfl⟩:∃j,i=s.size+j:=⟨i - s.size,jo⟩;rw [Nt];by_cases f:j=0
  .subst f;rfl
  .exact I4 _ _ (by show ¬j<1;omega)
theorem Gm.done {t s:jt} (h:Gm t s) (b:s.size=8 * (t.size / 8)+7):Gz t (s++BH ((t.size:Int) % 256)):=by
 obtain ⟨g,c,d⟩:=h;refine ⟨fun i a=>by rw [Kl _ _ _ jo];exact c i a,fun i a f=>by rw [Kl _ _ _ jo];exact d i a,?_,by rw [jY,EU];omega⟩;rw [<-b,show s.size=s.size+0 from rfl,Nt,Gn _ 0 (by rw [EU];omega)];have:(BH ((t.size:Int) % 256))[0]'(by rw [EU];omega)=UInt8.ofNat ((t.size:Int) % 256).toNat:=rfl;rw [this,UInt8.toNat_ofNat'];omega
theorem XQ {t y:jt} (h:Gz t y) (s:S4):∀n,n<=t.size / 8->CH y s n=CH t s n:=by
 intro n
 induction n with
 |zero=>intro _;rfl
 |succ n ih=>
  intro a;rw [CH,CH,ih jo,h.word n jo]
theorem Wf {t y:jt} (h:Gz t y) (s:S4):CH y s (t.size / 8+1)=(CH t s (t.size / 8)).take (bits .or .u64 (BE t (8 * (t.size / 8))) ((t.size:Int) * 72057594037927936 % 18446744073709551616)):=by
 rw [CH,XQ h s _ (jH _),h.last]
end Go.Proofs.YtpapdkhjdelfcaaGreat
